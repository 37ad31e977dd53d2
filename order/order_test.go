package order_test

import (
	"encoding/hex"
	"math/big"
	"math/rand"
	"strings"
	"testing"

	"isthmus/api"
	"isthmus/order"
)

// The calls are held against package math/big, which works in another way.

// whole is L, as the document writes it.
var whole = new(big.Int).Add(power(252), decimal("27742317777372353535851937790883648493"))

func decimal(s string) *big.Int {
	n, ok := new(big.Int).SetString(s, 10)
	if !ok {
		panic(s)
	}
	return n
}

func power(n uint) *big.Int { return new(big.Int).Lsh(big.NewInt(1), n) }

func modulo(n *big.Int) *big.Int { return new(big.Int).Mod(n, whole) }

func plus(n *big.Int, d int64) *big.Int { return new(big.Int).Add(n, big.NewInt(d)) }

// text has as many bytes of n, which must have room there, the lowest first.
func text(n *big.Int, size int) string {
	b := n.FillBytes(make([]byte, size))
	for i := range size / 2 {
		b[i], b[size-1-i] = b[size-1-i], b[i]
	}
	return string(b)
}

// value is the number whose bytes s is.
func value(s string) *big.Int {
	b := make([]byte, len(s))
	for i := range len(s) {
		b[len(s)-1-i] = s[i]
	}
	return new(big.Int).SetBytes(b)
}

// of is n's Scalar, by 64 bytes if it needs them.
func of(t *testing.T, n *big.Int) order.Scalar {
	t.Helper()
	size := 32
	if n.BitLen() > 256 {
		size = 64
	}
	a, err := order.Of(text(n, size))
	if err != api.OK {
		t.Fatalf("Of of %x: %v", n, err)
	}
	return a
}

// want tells it if a is not n modulo L, or its bytes are not canonical.
func want(t *testing.T, what string, a order.Scalar, n *big.Int) {
	t.Helper()
	if got := a.Bytes(); got != text(modulo(n), 32) {
		t.Errorf("%s: got %x, want %x", what, value(got), modulo(n))
	}
}

// around has the numbers next to n that are not below 0 and have at most so
// many bits.
func around(n *big.Int, far int64, bits int) []*big.Int {
	var out []*big.Int
	for d := -far; d <= far; d++ {
		if m := plus(n, d); m.Sign() >= 0 && m.BitLen() <= bits {
			out = append(out, m)
		}
	}
	return out
}

// edges are numbers below 2^256 where something may go wrong: next to 0, to
// each multiple of L, to 2^252, to where words and their halves end.
func edges() []*big.Int {
	out := around(new(big.Int), 3, 256)
	for k := range int64(16) {
		out = append(out, around(new(big.Int).Mul(whole, big.NewInt(k)), 2, 256)...)
	}
	for _, n := range []uint{32, 64, 124, 125, 128, 188, 192, 220, 224, 251, 252, 253, 254, 255, 256} {
		out = append(out, around(power(n), 1, 256)...)
		out = append(out, around(new(big.Int).Abs(new(big.Int).Sub(whole, power(n))), 1, 256)...)
	}
	for i := range uint(4) { // all bits of one word, and all but those
		word := new(big.Int).Lsh(new(big.Int).SetUint64(1<<64-1), 64*i)
		out = append(out, word, new(big.Int).Sub(plus(power(256), -1), word))
	}
	return append(out, new(big.Int).Rsh(whole, 1), plus(new(big.Int).Rsh(whole, 1), 1))
}

// wide are such numbers below 2^512: next to powers of 2, alone and by L, and to
// squares; each half of an edge.
func wide() []*big.Int {
	var out []*big.Int
	for n := uint(0); n <= 512; n++ {
		out = append(out, around(power(n), 1, 512)...)
		out = append(out, around(new(big.Int).Lsh(whole, n), 2, 512)...)
		out = append(out, around(new(big.Int).Lsh(power(252), n), 2, 512)...)
		out = append(out, around(new(big.Int).Lsh(plus(whole, -1), n), 2, 512)...)
	}
	all := edges()
	for _, high := range all {
		for _, low := range all {
			out = append(out, new(big.Int).Add(new(big.Int).Lsh(high, 256), low))
		}
	}
	for d := int64(-2); d <= 2; d++ {
		square := new(big.Int).Mul(whole, whole)
		out = append(out, plus(square, d), plus(new(big.Int).Add(square, whole), d), plus(new(big.Int).Sub(square, whole), d))
	}
	most := new(big.Int).Div(plus(power(512), -1), whole) // how often L is in all 512 bits
	return append(out, around(new(big.Int).Mul(most, whole), 2, 512)...)
}

// some are numbers of at most so many bits, the same ones in every run: of
// every length, and with rows of like bits.
func some(count int, bits uint) []*big.Int {
	r := rand.New(rand.NewSource(1))
	out := make([]*big.Int, count)
	for i := range out {
		n := new(big.Int).Rand(r, power(bits))
		switch i % 4 {
		case 1:
			n.Rsh(n, uint(r.Intn(int(bits))))
		case 2:
			n.Sub(power(uint(r.Intn(int(bits)+1))), power(uint(r.Intn(int(bits)+1)))).Abs(n)
		}
		out[i] = n
	}
	return out
}

func TestOfTakesThirtyTwoOrSixtyFourBytes(t *testing.T) {
	for n := range 200 {
		for _, fill := range []string{"\x00", "\x01", "\xff"} {
			s := strings.Repeat(fill, n)
			a, err := order.Of(s)
			if n == 32 || n == 64 {
				if err != api.OK {
					t.Errorf("%d bytes: %v", n, err)
				}
				want(t, "Of", a, value(s))
				continue
			}
			if err != api.ErrArg || a.Bytes() != text(new(big.Int), 32) || !a.Same(order.Scalar{}) {
				t.Errorf("%d bytes: error %d, Bytes %x", n, err, a.Bytes())
			}
		}
	}
	if _, err := order.Of(strings.Repeat("\x00", 1<<16)); err != api.ErrArg {
		t.Error("many bytes")
	}
	if api.ErrArg.Error() != "error 2" {
		t.Error("ErrArg's text")
	}
}

func TestOfThirtyTwoBytes(t *testing.T) {
	for _, n := range append(edges(), some(2000, 256)...) {
		want(t, "Of", of(t, n), n)
	}
	for bit := range uint(256) {
		want(t, "a bit", of(t, power(bit)), power(bit))
		want(t, "all but a bit", of(t, new(big.Int).Sub(plus(power(256), -1), power(bit))), new(big.Int).Sub(plus(power(256), -1), power(bit)))
	}
	named := []struct {
		n    *big.Int
		want *big.Int
	}{
		{new(big.Int), new(big.Int)},
		{plus(whole, -1), plus(whole, -1)},
		{whole, new(big.Int)},
		{plus(whole, 1), big.NewInt(1)},
		{new(big.Int).Lsh(whole, 1), new(big.Int)},
		{plus(power(256), -1), plus(new(big.Int).Sub(power(256), new(big.Int).Mul(whole, big.NewInt(15))), -1)},
	}
	for _, row := range named {
		if got := of(t, row.n).Bytes(); got != text(row.want, 32) {
			t.Errorf("Of of %x: got %x, want %x", row.n, value(got), row.want)
		}
	}
}

func TestOfSixtyFourBytes(t *testing.T) {
	for _, n := range append(wide(), some(20000, 512)...) {
		a, err := order.Of(text(n, 64))
		if err != api.OK {
			t.Fatalf("Of of %x: %v", n, err)
		}
		want(t, "Of", a, n)
		if t.Failed() {
			return
		}
	}
}

func TestOfBothLengths(t *testing.T) {
	none := strings.Repeat("\x00", 32)
	for _, n := range edges() {
		short, _ := order.Of(text(n, 32))
		long, _ := order.Of(text(n, 32) + none)
		if !short.Same(long) || short.Bytes() != long.Bytes() {
			t.Errorf("%x: 32 bytes are not what 64 are", n)
		}
	}
}

func TestExamplesOfTheChapter(t *testing.T) {
	l := text(whole, 32)
	if a, err := order.Of(l); err != api.OK || a.Bytes() != strings.Repeat("\x00", 32) || order.Canonical(l) {
		t.Error("L's bytes")
	}
	a, err := order.Of(strings.Repeat("\xff", 64))
	got := hex.EncodeToString([]byte(a.Bytes()))
	if err != api.OK || got != "000f9c44e31106a447938568a71b0ed065bef517d273ecce3d9a307c1b419903" {
		t.Errorf("64 bytes 255: %s", got)
	}
	if s, err := order.Clamp(strings.Repeat("\xff", 32)); err != api.OK || s != "\xf8"+strings.Repeat("\xff", 30)+"\x7f" {
		t.Errorf("Clamp: %x, %v", s, err)
	}
	if _, err := order.Of(strings.Repeat("\x00", 31)); err != api.ErrArg {
		t.Errorf("31 bytes: %v", err)
	}
}

func TestCanonical(t *testing.T) {
	for _, n := range append(edges(), some(2000, 256)...) {
		if got := order.Canonical(text(n, 32)); got != (n.Cmp(whole) < 0) {
			t.Errorf("Canonical of %x: %v", n, got)
		}
	}
	for n := range 200 {
		zeros := strings.Repeat("\x00", n)
		if order.Canonical(zeros) != (n == 32) {
			t.Errorf("Canonical of %d bytes 0: %v", n, n != 32)
		}
	}
	l := text(whole, 32)
	for at := range l { // a byte of L turned tells by itself whether it is below
		for _, d := range []int{-1, 1} {
			b := []byte(l)
			b[at] += byte(d)
			if order.Canonical(string(b)) != (value(string(b)).Cmp(whole) < 0) {
				t.Errorf("Canonical of L with the byte %d turned by %d", at, d)
			}
		}
	}
}

// TestCanonicalHangsOnTheBytesAlone asks for bytes that were made in unlike
// ways, and again behind other calls.
func TestCanonicalHangsOnTheBytesAlone(t *testing.T) {
	all := append(edges(), some(100, 256)...)
	first := make([]bool, len(all))
	for i, n := range all {
		first[i] = order.Canonical(text(n, 32))
		a := of(t, n)
		for _, s := range []string{a.Bytes(), a.Neg().Bytes(), a.Add(a).Bytes(), a.Mul(a).Bytes()} {
			if !order.Canonical(s) || !order.Canonical(strings.Clone(s)) {
				t.Errorf("%x: its Bytes are not canonical", n)
			}
		}
		if (a.Bytes() == text(n, 32)) != first[i] {
			t.Errorf("%x: canonical, but not its Bytes, or the other way round", n)
		}
	}
	for i := len(all) - 1; i >= 0; i-- {
		s := text(all[i], 32)
		if order.Canonical(("x" + s + "y")[1:33]) != first[i] || order.Canonical(s+"\x00") || order.Canonical(s[:31]) {
			t.Errorf("%x: another answer", all[i])
		}
	}
}

func TestClamp(t *testing.T) {
	row := []string{strings.Repeat("\x00", 32), strings.Repeat("\xff", 32)}
	for _, n := range append(edges(), some(500, 256)...) {
		row = append(row, text(n, 32))
	}
	for bit := range uint(256) {
		row = append(row, text(power(bit), 32), text(new(big.Int).Sub(plus(power(256), -1), power(bit)), 32))
	}
	for _, s := range row {
		n := value(s)
		for _, bit := range []int{0, 1, 2, 255} {
			n.SetBit(n, bit, 0)
		}
		n.SetBit(n, 254, 1)
		got, err := order.Clamp(s)
		if err != api.OK || got != text(n, 32) {
			t.Errorf("Clamp of %x: %x, %v", s, got, err)
		}
		if again, err := order.Clamp(got); err != api.OK || again != got {
			t.Errorf("Clamp of what it made of %x: %x, %v", s, again, err)
		}
	}
	if got, _ := order.Clamp(row[0]); got != strings.Repeat("\x00", 31)+"\x40" {
		t.Errorf("Clamp of 32 bytes 0: %x", got)
	}
}

func TestClampOfOtherLengths(t *testing.T) {
	for n := range 200 {
		if n == 32 {
			continue
		}
		for _, fill := range []string{"\x00", "\xff"} {
			if got, err := order.Clamp(strings.Repeat(fill, n)); got != "" || err != api.ErrArg {
				t.Errorf("Clamp of %d bytes: %x, %v", n, got, err)
			}
		}
	}
}

func TestZeroScalar(t *testing.T) {
	var zero order.Scalar
	five := of(t, big.NewInt(5))
	want(t, "the zero one", zero, new(big.Int))
	want(t, "its Neg", zero.Neg(), new(big.Int))
	want(t, "its sum", zero.Add(five), big.NewInt(5))
	want(t, "its product", zero.Mul(five), new(big.Int))
	if !zero.Same(of(t, whole)) || zero.Same(five) || five.Same(zero) {
		t.Error("the zero one is not 0")
	}
}

func TestCallsOfOne(t *testing.T) {
	for _, n := range append(edges(), some(1000, 512)...) {
		a := of(t, n)
		want(t, "Neg", a.Neg(), new(big.Int).Neg(n))
		want(t, "what a call was made on", a, n)
		if !a.Add(a.Neg()).Same(order.Scalar{}) || !a.Neg().Neg().Same(a) {
			t.Errorf("%x: Neg", n)
		}
	}
	for _, zero := range []*big.Int{new(big.Int), whole, new(big.Int).Mul(whole, whole)} {
		if got := of(t, zero).Neg().Bytes(); got != strings.Repeat("\x00", 32) {
			t.Errorf("Neg of 0: %x", got)
		}
	}
}

func TestCallsOfTwo(t *testing.T) {
	all := append(edges(), some(60, 256)...)
	all = append(all, some(60, 512)...)
	for _, m := range all {
		a := of(t, m)
		for _, n := range all {
			b := of(t, n)
			want(t, "Add", a.Add(b), new(big.Int).Add(m, n))
			want(t, "Mul", a.Mul(b), new(big.Int).Mul(m, n))
			if got, is := a.Same(b), modulo(m).Cmp(modulo(n)) == 0; got != is {
				t.Errorf("Same of %x and %x: %v", m, n, got)
			}
		}
		if t.Failed() {
			return
		}
	}
}

func TestSameOfUnlikeWays(t *testing.T) {
	one, most := of(t, big.NewInt(1)), of(t, plus(whole, -1))
	half := of(t, plus(new(big.Int).Rsh(whole, 1), 1))
	for _, n := range append(edges(), some(100, 512)...) {
		a := of(t, n)
		same := map[string]order.Scalar{
			"its bytes":      of(t, modulo(n)),
			"a sum":          a.Add(most).Add(one),
			"a double":       a.Add(a).Mul(half),
			"a product":      a.Mul(one),
			"twice Neg":      a.Neg().Neg(),
			"twice by -1":    a.Mul(most).Mul(most),
			"Neg by -1":      a.Neg().Mul(most),
			"L beside it":    of(t, new(big.Int).Add(modulo(n), whole)),
			"many beside it": of(t, new(big.Int).Add(modulo(n), new(big.Int).Lsh(whole, 258))),
			"0 beside it":    a.Add(of(t, whole)),
			"as it was":      a,
		}
		for how, b := range same {
			if !a.Same(b) || !b.Same(a) || a.Bytes() != b.Bytes() {
				t.Errorf("%x: %s is not the same", n, how)
			}
			if b.Same(a.Add(one)) || b.Add(most).Same(a) || b.Add(of(t, power(251))).Same(a) {
				t.Errorf("%x: %s is the same as another one", n, how)
			}
		}
	}
}

func TestSameTellsEachBit(t *testing.T) {
	for bit := range uint(253) {
		a, b := of(t, power(bit)), order.Scalar{}
		if a.Same(b) || b.Same(a) || !a.Same(of(t, power(bit))) {
			t.Errorf("bit %d", bit)
		}
	}
}

// pair is a number in both ways of working.
type pair struct {
	a order.Scalar
	n *big.Int
}

// TestRowsOfCalls goes on with answers as they come, so that what a call leaves
// undone would come out in a later one.
func TestRowsOfCalls(t *testing.T) {
	r := rand.New(rand.NewSource(2))
	var pool []pair
	for _, n := range append(edges(), some(50, 512)...) {
		pool = append(pool, pair{of(t, n), modulo(n)})
	}
	for range 30000 {
		x, y, at := pool[r.Intn(len(pool))], pool[r.Intn(len(pool))], r.Intn(len(pool))
		var z pair
		switch r.Intn(4) {
		case 0:
			z = pair{x.a.Add(y.a), modulo(new(big.Int).Add(x.n, y.n))}
		case 1:
			z = pair{x.a.Mul(y.a), modulo(new(big.Int).Mul(x.n, y.n))}
		case 2:
			z = pair{x.a.Neg(), modulo(new(big.Int).Neg(x.n))}
		case 3:
			z = pair{x.a.Add(y.a.Neg()), modulo(new(big.Int).Sub(x.n, y.n))}
		}
		want(t, "a row", z.a, z.n)
		if t.Failed() {
			return
		}
		pool[at] = z
	}
}

// TestRowsOfOneCall does one thing again and again.
func TestRowsOfOneCall(t *testing.T) {
	for _, n := range edges() {
		one := of(t, n)
		sum, double, square, product := pair{one, n}, pair{one, n}, pair{one, n}, pair{one, n}
		for range 100 {
			sum = pair{sum.a.Add(one), modulo(new(big.Int).Add(sum.n, n))}
			double = pair{double.a.Add(double.a), modulo(new(big.Int).Lsh(double.n, 1))}
			square = pair{square.a.Mul(square.a), modulo(new(big.Int).Mul(square.n, square.n))}
			product = pair{product.a.Mul(one).Neg(), modulo(new(big.Int).Neg(new(big.Int).Mul(product.n, n)))}
		}
		want(t, "sums", sum.a, sum.n)
		want(t, "doubles", double.a, double.n)
		want(t, "squares", square.a, square.n)
		want(t, "products", product.a, product.n)
	}
}

func TestLawsOfSumsAndProducts(t *testing.T) {
	all := append(edges(), some(50, 512)...)
	r := rand.New(rand.NewSource(3))
	for range 5000 {
		a, b, c := of(t, all[r.Intn(len(all))]), of(t, all[r.Intn(len(all))]), of(t, all[r.Intn(len(all))])
		laws := map[string]bool{
			"the order of two in a sum":       a.Add(b).Same(b.Add(a)),
			"the order of two in a product":   a.Mul(b).Same(b.Mul(a)),
			"the order of three in a sum":     a.Add(b).Add(c).Same(a.Add(b.Add(c))),
			"the order of three in a product": a.Mul(b).Mul(c).Same(a.Mul(b.Mul(c))),
			"a product of a sum":              a.Mul(b.Add(c)).Same(a.Mul(b).Add(a.Mul(c))),
			"a sum by one":                    b.Add(c).Mul(a).Same(a.Mul(c).Add(a.Mul(b))),
			"Neg of a sum":                    a.Add(b).Neg().Same(a.Neg().Add(b.Neg())),
			"Neg of a product":                a.Mul(b).Neg().Same(a.Neg().Mul(b)),
		}
		for law, holds := range laws {
			if !holds {
				t.Fatalf("%s: %x, %x, %x", law, a.Bytes(), b.Bytes(), c.Bytes())
			}
		}
	}
}

// TestNothingIsKept asks twice, with other calls between.
func TestNothingIsKept(t *testing.T) {
	answers := func(n *big.Int) string {
		a := of(t, n)
		clamped, _ := order.Clamp(text(n, 32))
		return a.Bytes() + a.Add(a).Bytes() + a.Mul(a).Bytes() + a.Neg().Bytes() + clamped
	}
	all := edges()
	first := make([]string, len(all))
	for i, n := range all {
		first[i] = answers(n)
	}
	for i := len(all) - 1; i >= 0; i-- {
		if answers(all[i]) != first[i] {
			t.Errorf("%x: another answer", all[i])
		}
	}
}
