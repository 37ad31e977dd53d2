package order

import (
	"math/big"
	"testing"
)

var whole, _ = new(big.Int).SetString("7237005577332262213973186563042994240857116359379907606001950938285454250989", 10)

// number is what these words are.
func number(x ...uint64) *big.Int {
	n := new(big.Int)
	for i := len(x) - 1; i >= 0; i-- {
		n.Lsh(n, 64).Add(n, new(big.Int).SetUint64(x[i]))
	}
	return n
}

// rows are all rows of words that are each an edge.
func rows() []words {
	edge := []uint64{0, 1, 1 << 63, 1<<64 - 1}
	var out []words
	for i := range 1 << (2 * count) {
		var x words
		for j := range x {
			x[j] = edge[i>>(2*j)&3]
		}
		out = append(out, x)
	}
	return out
}

func TestModulus(t *testing.T) {
	l := modulus()
	if number(l[:]...).Cmp(whole) != 0 {
		t.Errorf("%x", l)
	}
}

func TestWordsAtTheirEdges(t *testing.T) {
	full := new(big.Int).Lsh(big.NewInt(1), 256)
	for _, x := range rows() {
		m := number(x[:]...)
		for _, y := range rows() {
			n := number(y[:]...)
			sum, carry := x.plus(y)
			if number(append(sum[:], carry)...).Cmp(new(big.Int).Add(m, n)) != 0 {
				t.Fatalf("%x plus %x", x, y)
			}
			rest, borrow := x.minus(y)
			got := new(big.Int).Sub(number(rest[:]...), new(big.Int).Mul(full, number(borrow)))
			if borrow > 1 || got.Cmp(new(big.Int).Sub(m, n)) != 0 {
				t.Fatalf("%x minus %x", x, y)
			}
			product := x.times(y)
			if number(product[:]...).Cmp(new(big.Int).Mul(m, n)) != 0 {
				t.Fatalf("%x times %x", x, y)
			}
		}
	}
}

func TestProductAndFits(t *testing.T) {
	edge := []uint64{0, 1, 1<<32 - 1, 1 << 63, 1<<64 - 2, 1<<64 - 1}
	for _, x := range edge {
		for _, y := range edge {
			for _, a := range edge {
				for _, b := range edge {
					low, high := productAnd(x, y, a, b)
					n := new(big.Int).Mul(number(x), number(y))
					n.Add(n, number(a)).Add(n, number(b))
					if number(low, high).Cmp(n) != 0 {
						t.Fatalf("%x by %x and %x and %x", x, y, a, b)
					}
				}
			}
		}
	}
}

// TestNextStaysBelow takes in half words where next has the least room: at L
// less 1, next to 2^252, and where the halves of words end.
func TestNextStaysBelow(t *testing.T) {
	one := big.NewInt(1)
	var all []*big.Int
	for bit := range uint(253) {
		power := new(big.Int).Lsh(one, bit)
		all = append(all, power, new(big.Int).Sub(power, one))
		if rest := new(big.Int).Sub(whole, power); rest.Sign() > 0 {
			all = append(all, rest)
		}
	}
	for _, n := range all {
		var a Scalar
		for i := range a.words {
			a.words[i] = new(big.Int).And(new(big.Int).Rsh(n, uint(64*i)), number(1<<64-1)).Uint64()
		}
		for _, half := range []uint64{0, 1, 1 << 31, 1<<32 - 1} {
			b := a.next(half)
			m := new(big.Int).Lsh(n, 32)
			m.Add(m, number(half)).Mod(m, whole)
			if number(b.words[:]...).Cmp(m) != 0 {
				t.Fatalf("%x, then %x: got %x, want %x", n, half, number(b.words[:]...), m)
			}
		}
	}
}
