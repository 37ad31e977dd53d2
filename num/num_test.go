package num_test

import (
	"math/big"
	"math/rand"
	"strings"
	"testing"

	"isthmus/api"
	"isthmus/num"
)

// The calls are held against package math/big, which works in another way.

var prime = new(big.Int).Sub(power(255), big.NewInt(19))

func power(n uint) *big.Int { return new(big.Int).Lsh(big.NewInt(1), n) }

func modulo(n *big.Int) *big.Int { return new(big.Int).Mod(n, prime) }

// text has the 32 bytes of n, which must be below 2^256, the lowest first.
func text(n *big.Int) string {
	b := n.FillBytes(make([]byte, 32))
	for i := range 16 {
		b[i], b[31-i] = b[31-i], b[i]
	}
	return string(b)
}

// value is the number whose bytes s is.
func value(s string) *big.Int {
	b := make([]byte, len(s))
	for i := range len(s) {
		b[len(s)-1-i] = s[i]
	}
	return new(big.Int).SetBytes(b)
}

func of(t *testing.T, n *big.Int) num.Elem {
	t.Helper()
	a, err := num.Of(text(n))
	if err != api.OK {
		t.Fatalf("Of of %x: %v", n, err)
	}
	return a
}

// want tells it if a is not n modulo p, or its bytes are not canonical.
func want(t *testing.T, what string, a num.Elem, n *big.Int) {
	t.Helper()
	if got := a.Bytes(); got != text(modulo(n)) {
		t.Errorf("%s: got %x, want %x", what, value(got), modulo(n))
	}
}

// edges are numbers below 2^256 where something may go wrong: next to 0, to the
// multiples of p, to each power of 2, to where parts and words end.
func edges() []*big.Int {
	var out []*big.Int
	around := func(n *big.Int, far int64) {
		for d := -far; d <= far; d++ {
			m := new(big.Int).Add(n, big.NewInt(d))
			if m.Sign() >= 0 && m.BitLen() <= 256 {
				out = append(out, m)
			}
		}
	}
	around(new(big.Int), 3)
	around(big.NewInt(19), 1)
	around(prime, 3)
	around(new(big.Int).Lsh(prime, 1), 2)
	around(power(255), 2)
	around(power(256), 2)
	for _, n := range []uint{26, 32, 51, 64, 102, 128, 153, 192, 204, 252, 254} {
		around(power(n), 1)
		around(new(big.Int).Sub(prime, power(n)), 1)
	}
	for i := range uint(5) { // all bits of one part, and all but those
		part := new(big.Int).Lsh(big.NewInt(1<<51-1), 51*i)
		out = append(out, part, new(big.Int).Sub(new(big.Int).Sub(power(255), big.NewInt(1)), part))
	}
	out = append(out, new(big.Int).Rsh(prime, 1), new(big.Int).Rsh(prime, 2))
	return out
}

// some are numbers below 2^256 of every kind, the same ones in every run.
func some(count int) []*big.Int {
	r := rand.New(rand.NewSource(1))
	out := make([]*big.Int, count)
	for i := range out {
		out[i] = new(big.Int).Rand(r, power(256))
		if i%4 == 0 {
			out[i].Rsh(out[i], uint(r.Intn(256)))
		}
	}
	return out
}

func TestOfTakesThirtyTwoBytes(t *testing.T) {
	for n := range 100 {
		for _, fill := range []string{"\x00", "\x01", "\xff"} {
			s := strings.Repeat(fill, n)
			a, err := num.Of(s)
			if n == 32 {
				if err != api.OK {
					t.Errorf("32 bytes: %v", err)
				}
				continue
			}
			if err != api.ErrArg || a.Bytes() != text(new(big.Int)) || num.Canonical(s) {
				t.Errorf("%d bytes: error %d, Bytes %x, Canonical %v", n, err, a.Bytes(), num.Canonical(s))
			}
		}
	}
	if num.Canonical(strings.Repeat("\x00", 1<<16)) {
		t.Error("Canonical of many bytes")
	}
	if api.ErrArg.Error() != "error 2" {
		t.Error("ErrArg's text")
	}
}

func TestOfCountsAllBits(t *testing.T) {
	for _, n := range append(edges(), some(500)...) {
		want(t, "Of", of(t, n), n)
	}
	for bit := range uint(256) {
		want(t, "a bit", of(t, power(bit)), power(bit))
	}
	named := []struct {
		n    *big.Int
		want int64
	}{
		{new(big.Int), 0},
		{prime, 0},
		{new(big.Int).Add(prime, big.NewInt(1)), 1},
		{new(big.Int).Sub(prime, big.NewInt(1)), -1},
		{new(big.Int).Lsh(prime, 1), 0},
		{new(big.Int).Sub(new(big.Int).Lsh(prime, 1), big.NewInt(1)), -1},
		{power(255), 19},
		{new(big.Int).Sub(power(256), big.NewInt(1)), 37},
	}
	for _, row := range named {
		want(t, row.n.Text(16), of(t, row.n), big.NewInt(row.want))
	}
}

func TestSmall(t *testing.T) {
	for _, n := range []uint32{0, 1, 2, 18, 19, 20, 255, 256, 1<<16 - 1, 1 << 16, 1<<31 - 1, 1 << 31, 1<<32 - 1} {
		want(t, "Small", num.Small(n), big.NewInt(int64(n)))
	}
}

func TestCanonical(t *testing.T) {
	for _, n := range append(edges(), some(500)...) {
		if got := num.Canonical(text(n)); got != (n.Cmp(prime) < 0) {
			t.Errorf("Canonical of %x: %v", n, got)
		}
	}
}

func TestZeroElem(t *testing.T) {
	var zero num.Elem
	want(t, "the zero one", zero, new(big.Int))
	want(t, "its Neg", zero.Neg(), new(big.Int))
	want(t, "its Inv", zero.Inv(), new(big.Int))
	want(t, "its sum", zero.Add(num.Small(5)), big.NewInt(5))
	want(t, "its product", zero.Mul(num.Small(5)), new(big.Int))
	if !zero.Same(num.Small(0)) || zero.Same(num.Small(1)) || zero.Odd() {
		t.Error("the zero one is not 0")
	}
}

func TestCallsOfTwo(t *testing.T) {
	all := append(edges(), some(60)...)
	for _, m := range all {
		a := of(t, m)
		for _, n := range all {
			b := of(t, n)
			want(t, "Add", a.Add(b), new(big.Int).Add(m, n))
			want(t, "Sub", a.Sub(b), new(big.Int).Sub(m, n))
			want(t, "Mul", a.Mul(b), new(big.Int).Mul(m, n))
			if got, is := a.Same(b), modulo(m).Cmp(modulo(n)) == 0; got != is {
				t.Errorf("Same of %x and %x: %v", m, n, got)
			}
		}
		if t.Failed() {
			return
		}
	}
}

func TestCallsOfOne(t *testing.T) {
	for _, n := range append(edges(), some(300)...) {
		a := of(t, n)
		want(t, "Neg", a.Neg(), new(big.Int).Neg(n))
		inverse := new(big.Int)
		if modulo(n).Sign() != 0 {
			inverse.ModInverse(modulo(n), prime)
		}
		want(t, "Inv", a.Inv(), inverse)
		if a.Odd() != (modulo(n).Bit(0) == 1) {
			t.Errorf("Odd of %x: %v", n, a.Odd())
		}
		want(t, "what a call was made on", a, n)
	}
}

func TestInvOfZero(t *testing.T) {
	zeros := []num.Elem{
		{},
		num.Small(0),
		of(t, prime),
		of(t, new(big.Int).Lsh(prime, 1)),
		num.Small(7).Sub(num.Small(7)),
		num.Small(1).Add(num.Small(1).Neg()),
	}
	for i, zero := range zeros {
		want(t, "Inv", zero.Inv(), new(big.Int))
		if !zero.Inv().Same(num.Elem{}) || zero.Odd() || !zero.Same(zeros[0]) {
			t.Errorf("zero of place %d", i)
		}
	}
}

func TestSameOfUnlikeRows(t *testing.T) {
	for _, n := range append(edges(), some(100)...) {
		a := of(t, n)
		same := map[string]num.Elem{
			"its bytes":       of(t, modulo(n)),
			"a sum":           a.Sub(num.Small(1 << 31)).Add(num.Small(1 << 31)),
			"a double":        a.Add(a).Mul(num.Small(2).Inv()),
			"a product":       a.Mul(num.Small(1)),
			"twice Neg":       a.Neg().Neg(),
			"p beside it":     a.Add(of(t, prime)),
			"p taken away":    a.Sub(of(t, prime)),
			"many beside it":  a.Add(of(t, power(255))).Sub(num.Small(19)),
			"twice Inv":       a.Inv().Inv(),
			"as it was":       a,
			"0 without it":    num.Small(0).Sub(num.Small(0).Sub(a)),
			"1 less, and one": num.Small(1).Add(a.Sub(num.Small(1))),
		}
		for how, b := range same {
			if !a.Same(b) || !b.Same(a) || a.Odd() != b.Odd() || a.Bytes() != b.Bytes() {
				t.Errorf("%x: %s is not the same", n, how)
			}
			if b.Same(a.Add(num.Small(1))) || b.Add(of(t, power(254))).Same(a) {
				t.Errorf("%x: %s is the same as another one", n, how)
			}
		}
	}
}

// pair is a number in both ways of working.
type pair struct {
	a num.Elem
	n *big.Int
}

// TestRowsOfCalls goes on with answers as they come, so that what a call leaves
// undone would come out in a later one.
func TestRowsOfCalls(t *testing.T) {
	r := rand.New(rand.NewSource(2))
	var pool []pair
	for _, n := range append(edges(), some(50)...) {
		pool = append(pool, pair{of(t, n), modulo(n)})
	}
	for range 20000 {
		x, y, at := pool[r.Intn(len(pool))], pool[r.Intn(len(pool))], r.Intn(len(pool))
		var z pair
		switch r.Intn(5) {
		case 0:
			z = pair{x.a.Add(y.a), modulo(new(big.Int).Add(x.n, y.n))}
		case 1:
			z = pair{x.a.Sub(y.a), modulo(new(big.Int).Sub(x.n, y.n))}
		case 2:
			z = pair{x.a.Mul(y.a), modulo(new(big.Int).Mul(x.n, y.n))}
		case 3:
			z = pair{x.a.Neg(), modulo(new(big.Int).Neg(x.n))}
		case 4:
			z = pair{x.a.Add(x.a), modulo(new(big.Int).Add(x.n, x.n))}
		}
		want(t, "a row", z.a, z.n)
		if t.Failed() {
			return
		}
		pool[at] = z
	}
}

// TestRowsOfOneCall does one thing again and again.
func TestRowsOfOneCall(t *testing.T) {
	for _, n := range edges() {
		one := of(t, n)
		sum, rest, double, square, product := pair{one, n}, pair{one, n}, pair{one, n}, pair{one, n}, pair{one, n}
		for range 100 {
			sum = pair{sum.a.Add(one), modulo(new(big.Int).Add(sum.n, n))}
			rest = pair{rest.a.Sub(one).Sub(one), modulo(new(big.Int).Sub(rest.n, new(big.Int).Lsh(n, 1)))}
			double = pair{double.a.Add(double.a), modulo(new(big.Int).Lsh(double.n, 1))}
			square = pair{square.a.Mul(square.a), modulo(new(big.Int).Mul(square.n, square.n))}
			product = pair{product.a.Mul(one).Neg(), modulo(new(big.Int).Neg(new(big.Int).Mul(product.n, n)))}
		}
		want(t, "sums", sum.a, sum.n)
		want(t, "differences", rest.a, rest.n)
		want(t, "doubles", double.a, double.n)
		want(t, "squares", square.a, square.n)
		want(t, "products", product.a, product.n)
	}
}

func TestRoot(t *testing.T) {
	with, without := 0, 0
	for _, n := range append(edges(), some(300)...) {
		a := of(t, n)
		r, is := a.Root()
		root := new(big.Int).ModSqrt(modulo(n), prime)
		if is != (root != nil) {
			t.Errorf("Root of %x: %v", n, is)
			continue
		}
		if !is {
			without++
			want(t, "no root", r, new(big.Int))
			continue
		}
		with++
		if root.Bit(0) == 1 {
			root.Sub(prime, root)
		}
		want(t, "Root", r, root)
		if r.Odd() || !r.Mul(r).Same(a) {
			t.Errorf("Root of %x: odd, or no root", n)
		}
	}
	if with < 100 || without < 100 {
		t.Errorf("%d with a root, %d without one: too few of one kind", with, without)
	}
}

func TestRootOfSquares(t *testing.T) {
	for _, n := range append(edges(), some(100)...) {
		a := of(t, n)
		even := a
		if even.Odd() {
			even = even.Neg()
		}
		if r, is := a.Mul(a).Root(); !is || !r.Same(even) {
			t.Errorf("Root of the square of %x", n)
		}
	}
	for _, zero := range []num.Elem{{}, num.Small(0), of(t, prime), num.Small(3).Sub(num.Small(3))} {
		r, is := zero.Root()
		if !is {
			t.Error("0 has a root")
		}
		want(t, "Root of 0", r, new(big.Int))
	}
	if r, is := num.Small(1).Neg().Root(); !is || !r.Mul(r).Same(num.Small(1).Neg()) {
		t.Error("Root of -1")
	}
}

func TestLawsOfSumsAndProducts(t *testing.T) {
	all := append(edges(), some(50)...)
	r := rand.New(rand.NewSource(3))
	for range 5000 {
		a, b, c := of(t, all[r.Intn(len(all))]), of(t, all[r.Intn(len(all))]), of(t, all[r.Intn(len(all))])
		laws := map[string]bool{
			"the order of two in a sum":       a.Add(b).Same(b.Add(a)),
			"the order of two in a product":   a.Mul(b).Same(b.Mul(a)),
			"the order of three in a sum":     a.Add(b).Add(c).Same(a.Add(b.Add(c))),
			"the order of three in a product": a.Mul(b).Mul(c).Same(a.Mul(b.Mul(c))),
			"a product of a sum":              a.Mul(b.Add(c)).Same(a.Mul(b).Add(a.Mul(c))),
			"a product of a difference":       a.Mul(b.Sub(c)).Same(a.Mul(b).Sub(a.Mul(c))),
			"a difference and its sum":        a.Sub(b).Add(b).Same(a),
		}
		for law, holds := range laws {
			if !holds {
				t.Fatalf("%s: %x, %x, %x", law, a.Bytes(), b.Bytes(), c.Bytes())
			}
		}
	}
}

func TestLawsOfInvAndRoot(t *testing.T) {
	two := num.Small(2)
	for _, n := range append(edges(), some(200)...) {
		a := of(t, n)
		_, is := a.Root()
		_, double := a.Mul(two).Root()
		if modulo(n).Sign() == 0 {
			if !a.Mul(a.Inv()).Same(num.Elem{}) || !is || !double {
				t.Errorf("%x: 0 by its Inv, or its roots", n)
			}
			continue
		}
		if !a.Mul(a.Inv()).Same(num.Small(1)) {
			t.Errorf("%x by its Inv is not 1", n)
		}
		if is == double {
			t.Errorf("%x and twice it: a root of both, or of none", n)
		}
	}
}

// TestNothingIsKept asks twice, with other calls between.
func TestNothingIsKept(t *testing.T) {
	answers := func(n *big.Int) string {
		a := of(t, n)
		r, _ := a.Root()
		return a.Bytes() + a.Add(a).Bytes() + a.Mul(a).Bytes() + a.Sub(num.Small(3)).Bytes() + a.Neg().Bytes() + a.Inv().Bytes() + r.Bytes()
	}
	all := edges()
	first := make([]string, len(all))
	for i, n := range all {
		first[i] = answers(n)
	}
	for i := len(all) - 1; i >= 0; i-- {
		if answers(all[i]) != first[i] {
			t.Errorf("%x: another answer", all[i])
		}
	}
}
