package num

import (
	"math/big"
	"testing"
)

// most is the greatest part that carried leaves.
const most = full + (1<<13-1)*fold

var p = new(big.Int).Sub(new(big.Int).Lsh(big.NewInt(1), 255), big.NewInt(19))

// sum is the number of the parts, not modulo p.
func sum(x [count]uint64) *big.Int {
	n := new(big.Int)
	for i := count - 1; i >= 0; i-- {
		n.Lsh(n, width).Add(n, new(big.Int).SetUint64(x[i]))
	}
	return n
}

// rows are all rows of parts that are each an edge of what carried leaves.
func rows() []Elem {
	edge := []uint64{0, full, full + 1, most}
	var out []Elem
	for i := range 1 << (2 * count) {
		var a Elem
		for j := range a.parts {
			a.parts[j] = edge[i>>(2*j)&3]
		}
		out = append(out, a)
	}
	return out
}

func same(t *testing.T, what string, a Elem, n *big.Int) {
	t.Helper()
	for _, part := range a.parts {
		if part > most {
			t.Errorf("%s: a part %d above the bound", what, part)
		}
	}
	n = new(big.Int).Mod(n, p)
	if sum(a.least()).Cmp(n) != 0 {
		t.Errorf("%s: got %x, want %x", what, sum(a.least()), n)
	}
}

func TestCarriedKeepsItsBound(t *testing.T) {
	const all = 1<<64 - 1
	for i := range 1 << count {
		var x [count]uint64
		for j := range x {
			if i>>j&1 == 1 {
				x[j] = all
			}
		}
		same(t, "carried", carried(x[0], x[1], x[2], x[3], x[4]), sum(x))
	}
}

func TestCallsAtTheBoundOfParts(t *testing.T) {
	all := rows()
	for i, a := range all {
		m := sum(a.parts)
		same(t, "least", a, m)
		same(t, "Neg", a.Neg(), new(big.Int).Neg(m))
		for _, b := range []Elem{a, all[len(all)-1], all[(i*7+3)%len(all)], all[(i*31+11)%len(all)]} {
			n := sum(b.parts)
			same(t, "Add", a.Add(b), new(big.Int).Add(m, n))
			same(t, "Sub", a.Sub(b), new(big.Int).Sub(m, n))
			same(t, "Sub", b.Sub(a), new(big.Int).Sub(n, m))
			same(t, "Mul", a.Mul(b), new(big.Int).Mul(m, n))
			same(t, "Mul", b.Mul(a), new(big.Int).Mul(m, n))
		}
		if t.Failed() {
			return
		}
	}
}

func TestPowers(t *testing.T) {
	a, one := Small(3), big.NewInt(1)
	for n := range uint(260) {
		e := new(big.Int).Lsh(one, n)
		same(t, "squares", a.squares(n), new(big.Int).Exp(big.NewInt(3), e, p))
		same(t, "ones", a.ones(n), new(big.Int).Exp(big.NewInt(3), e.Sub(e, one), p))
	}
}

func TestRootOfMinusOne(t *testing.T) {
	quarter := new(big.Int).Rsh(p, 2)
	same(t, "its power of 2", rootOfMinusOne(), new(big.Int).Exp(big.NewInt(2), quarter, p))
	same(t, "its square", rootOfMinusOne().Mul(rootOfMinusOne()), big.NewInt(-1))
}
