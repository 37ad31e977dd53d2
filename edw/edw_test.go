package edw_test

import (
	"crypto/ed25519"
	"crypto/sha512"
	"encoding/hex"
	"math/big"
	"math/rand"
	"strings"
	"testing"

	"isthmus/api"
	"isthmus/edw"
	"isthmus/mont"
	"isthmus/order"
)

var (
	nothing = strings.Repeat("\x00", 32)
	none    = edw.Point{}
)

func unhex(t *testing.T, s string) string {
	t.Helper()
	b, err := hex.DecodeString(s)
	if err != nil {
		t.Fatal(err)
	}
	return string(b)
}

// at is the Point of a.
func at(t *testing.T, a spot) edw.Point {
	t.Helper()
	p, err := edw.Decode(a.bytes())
	if err != api.OK {
		t.Fatalf("Decode of %x: %v", a.bytes(), err)
	}
	return p
}

// is holds p against a, by its bytes and by Same.
func is(t *testing.T, what string, p edw.Point, a spot) {
	t.Helper()
	if got := p.Bytes(); got != a.bytes() {
		t.Errorf("%s: got %x, want %x", what, got, a.bytes())
	}
	if !p.Same(at(t, a)) || !at(t, a).Same(p) {
		t.Errorf("%s: not the same as %x", what, a.bytes())
	}
}

// isNone tells if p is anything.
func isNone(t *testing.T, what string, p edw.Point) {
	t.Helper()
	if p.Bytes() != "" || p.Small() || p.Same(p) {
		t.Errorf("%s: %x is not none", what, p.Bytes())
	}
}

func scalar(t *testing.T, n *big.Int) order.Scalar {
	t.Helper()
	s, err := order.Of(text(n))
	if err != api.OK {
		t.Fatal(err)
	}
	return s
}

// turned is s with the bit of that place turned.
func turned(s string, place int) string {
	b := []byte(s)
	b[place/8] ^= 1 << (place % 8)
	return string(b)
}

// some are rows of 32 bytes, the same ones in every run.
func some(count int, seed int64) []string {
	r := rand.New(rand.NewSource(seed))
	out := make([]string, count)
	for i := range out {
		b := make([]byte, 32)
		r.Read(b)
		out[i] = string(b)
	}
	return out
}

// numbers are scalars below L where something may go wrong, and some others.
func numbers() []*big.Int {
	var out []*big.Int
	for n := range int64(18) {
		out = append(out, big.NewInt(n))
	}
	for d := int64(-9); d < 0; d++ {
		out = append(out, plus(whole, d))
	}
	for _, n := range []uint{8, 63, 64, 127, 128, 191, 192, 251, 252} {
		out = append(out, power(n), plus(power(n), -1), plus(power(n), 1))
	}
	out = append(out, new(big.Int).Rsh(whole, 1), value(strings.Repeat("\xf0", 31)+"\x00"), value(strings.Repeat("\x0f", 32)))
	for _, s := range some(5, 1) {
		out = append(out, new(big.Int).Mod(value(s), whole))
	}
	return out
}

// multiples are some of the base point, and the zero point.
func multiples() []spot {
	out := []spot{nowhere, base, base.neg(), base.add(base), base.often(big.NewInt(3))}
	for _, s := range some(3, 2) {
		out = append(out, base.often(value(s)))
	}
	return out
}

// points are those of small order, multiples of the base point, and sums of both.
func points() []spot {
	eight := small()
	out := append(multiples(), eight[1:]...)
	for i, p := range multiples()[1:] {
		out = append(out, p.add(eight[i%7+1]))
	}
	return out
}

// TestExamples are those of the chapter.
func TestExamples(t *testing.T) {
	b := edw.Base()
	if !b.Add(b.Neg()).Same(edw.Zero()) || edw.Zero().Bytes() != "\x01"+nothing[1:] {
		t.Error("the zero point")
	}
	for _, s := range []string{strings.Repeat("\xff", 31) + "\x7f", "\x01" + nothing[2:] + "\x80", "\x02" + nothing[1:]} {
		p, err := edw.Decode(s)
		if err != api.ErrPoint {
			t.Errorf("Decode of %x: %v", s, err)
		}
		isNone(t, "beside an error", p)
	}
	if b.Small() || !edw.Zero().Small() || none.Small() {
		t.Error("Small")
	}
	if api.ErrPoint.Error() != "error 40" {
		t.Error("the text of the error")
	}
}

func TestZero(t *testing.T) {
	zero := edw.Zero()
	is(t, "Zero", zero, nowhere)
	is(t, "Zero and Zero", zero.Add(zero), nowhere)
	is(t, "Neg of Zero", zero.Neg(), nowhere)
	for _, a := range points() {
		is(t, "with Zero", at(t, a).Add(zero), a)
		is(t, "Zero with", zero.Add(at(t, a)), a)
	}
	for _, n := range numbers() {
		is(t, "times Zero", zero.Mul(scalar(t, n)), nowhere)
	}
}

func TestBase(t *testing.T) {
	if !base.on() || base.bytes() != "\x58"+strings.Repeat("\x66", 31) {
		t.Fatal("the test has another base point")
	}
	is(t, "Base", edw.Base(), base)
	// As RFC 8032 writes its coordinates.
	if base.x.Cmp(decimal("15112221349535400772501151409588531511454012693041857206046113283949847762202")) != 0 ||
		base.y.Cmp(decimal("46316835694926478169428394003475163141307993866256225615783033603165251855960")) != 0 {
		t.Error("the coordinates")
	}
	for _, a := range points() {
		is(t, "with Base", at(t, a).Add(edw.Base()), a.add(base))
		is(t, "Base with", edw.Base().Add(at(t, a)), a.add(base))
	}
	sum, want := edw.Zero(), nowhere
	for range 40 {
		sum, want = sum.Add(edw.Base()), want.add(base)
		is(t, "Base, again and again", sum, want)
	}
}

func TestDecodeLengths(t *testing.T) {
	for n := range 100 {
		for _, fill := range []string{"\x00", "\x01", "\x66", "\xff"} {
			if n == 32 {
				continue
			}
			p, err := edw.Decode(strings.Repeat(fill, n))
			if err != api.ErrArg {
				t.Errorf("Decode of %d bytes: %v", n, err)
			}
			isNone(t, "beside an error", p)
		}
	}
	for _, s := range []string{base.bytes() + "\x00", base.bytes()[:31], base.bytes() + base.bytes(), strings.Repeat("\x66", 1<<20)} {
		if _, err := edw.Decode(s); err != api.ErrArg {
			t.Errorf("Decode of %d bytes: %v", len(s), err)
		}
	}
}

// decode holds Decode against that of the test, and tells whether there is a point.
func decode(t *testing.T, s string) bool {
	t.Helper()
	p, err := edw.Decode(s)
	want, good := decoded(s)
	if !good {
		if err != api.ErrPoint {
			t.Errorf("Decode of %x: %v", s, err)
		}
		isNone(t, "beside an error", p)
		return false
	}
	if err != api.OK || p.Bytes() != s {
		t.Errorf("Decode of %x: %x, %v", s, p.Bytes(), err)
	}
	// Bytes could be right of a point that is none of the curve: its sums are not.
	is(t, "twice what Decode answered", p.Add(p), want.add(want))
	return true
}

// TestDecodeNotCanonical has all bytes that are those of p or above.
func TestDecodeNotCanonical(t *testing.T) {
	for d := range int64(19) {
		s := text(plus(prime, d))
		for _, s := range []string{s, turned(s, 255)} {
			p, err := edw.Decode(s)
			if err != api.ErrPoint {
				t.Errorf("Decode of %x: %v", s, err)
			}
			isNone(t, "beside an error", p)
		}
	}
	// Without p they would be these, of which there are points.
	for _, y := range []int64{0, 1, 3, 4, 5, 6} {
		if !decode(t, text(big.NewInt(y))) {
			t.Errorf("no point with the y %d", y)
		}
	}
}

// TestDecode has ys next to 0 and to p and others, with both signs.
func TestDecode(t *testing.T) {
	var ys []string
	for n := range int64(150) {
		ys = append(ys, text(big.NewInt(n)), text(plus(prime, -1-n)))
	}
	ys = append(ys, some(200, 3)...)
	for bit := range 255 {
		ys = append(ys, turned(base.bytes(), bit))
	}
	good, bad := 0, 0
	for _, s := range ys {
		for _, s := range []string{s, turned(s, 255)} {
			if decode(t, s) {
				good++
			} else {
				bad++
			}
		}
	}
	if good < 300 || bad < 300 {
		t.Errorf("%d points, %d none", good, bad)
	}
}

// TestXOfNothing has both points whose x is 0, which has no sign.
func TestXOfNothing(t *testing.T) {
	for _, y := range []*big.Int{big.NewInt(1), plus(prime, -1)} {
		p, err := edw.Decode(text(y))
		if err != api.OK || p.Bytes() != text(y) || !p.Neg().Same(p) {
			t.Errorf("the y %x: %x, %v", y, p.Bytes(), err)
		}
		p, err = edw.Decode(turned(text(y), 255))
		if err != api.ErrPoint {
			t.Errorf("the y %x with the highest bit: %v", y, err)
		}
		isNone(t, "beside an error", p)
	}
}

func TestBothX(t *testing.T) {
	for _, a := range points() {
		p := at(t, a)
		if a.x.Sign() == 0 {
			continue
		}
		q, err := edw.Decode(turned(p.Bytes(), 255))
		if err != api.OK || q.Same(p) || q.Bytes() == p.Bytes() {
			t.Fatalf("the other x of %x: %x, %v", p.Bytes(), q.Bytes(), err)
		}
		is(t, "the other x", q, a.neg())
		is(t, "Neg", p.Neg(), a.neg())
		is(t, "both", p.Add(q), nowhere)
		if !q.Same(p.Neg()) || !p.Same(q.Neg()) {
			t.Errorf("the other x of %x is not Neg", p.Bytes())
		}
	}
}

func TestNone(t *testing.T) {
	isNone(t, "the zero value", none)
	isNone(t, "Neg", none.Neg())
	isNone(t, "none and none", none.Add(none))
	for _, n := range numbers()[:4] {
		isNone(t, "Mul", none.Mul(scalar(t, n)))
	}
	isNone(t, "Mul by the zero value", none.Mul(order.Scalar{}))
	all := points()
	for _, a := range all {
		p := at(t, a)
		isNone(t, "with none", p.Add(none))
		isNone(t, "none with", none.Add(p))
		if p.Same(none) || none.Same(p) {
			t.Errorf("%x is the same as none", p.Bytes())
		}
		// What none went into stays none.
		gone := p.Add(none).Neg().Add(p).Mul(scalar(t, big.NewInt(5)))
		isNone(t, "gone on with", gone)
		isNone(t, "gone on with", p.Add(gone))
		if gone.Same(p) || p.Same(gone) || gone.Same(none) {
			t.Error("none is the same as something")
		}
	}
}

func TestAdd(t *testing.T) {
	all := points()
	for i, a := range all {
		is(t, "with itself", at(t, a).Add(at(t, a)), a.add(a))
		is(t, "with its Neg", at(t, a).Add(at(t, a).Neg()), nowhere)
		for _, b := range all[i:] {
			p, q := at(t, a), at(t, b)
			is(t, "Add", p.Add(q), a.add(b))
			is(t, "Add", q.Add(p), a.add(b))
			is(t, "Add of Neg", p.Add(q.Neg()), a.add(b.neg()))
		}
	}
}

func TestNeg(t *testing.T) {
	for _, a := range points() {
		p := at(t, a)
		is(t, "Neg", p.Neg(), a.neg())
		is(t, "Neg of Neg", p.Neg().Neg(), a)
		is(t, "Neg of a sum", p.Add(edw.Base()).Neg(), a.add(base).neg())
		if p.Same(p.Neg()) != (a.x.Sign() == 0) {
			t.Errorf("%x and its Neg", p.Bytes())
		}
	}
}

func TestMul(t *testing.T) {
	eight := small()
	for _, a := range []spot{base, base.add(eight[1]), base.often(value(some(1, 4)[0])).add(eight[5])} {
		for _, n := range numbers() {
			is(t, "Mul", at(t, a).Mul(scalar(t, n)), a.often(n))
		}
	}
	for _, a := range points() {
		p := at(t, a)
		is(t, "not at all", p.Mul(order.Scalar{}), nowhere)
		is(t, "once", p.Mul(scalar(t, big.NewInt(1))), a)
		is(t, "L - 1 times", p.Mul(scalar(t, plus(whole, -1))), a.often(plus(whole, -1)))
		is(t, "L times, which is not at all", p.Mul(scalar(t, whole)), nowhere)
	}
	// Points of small order take the number below L, not one modulo 8.
	for _, a := range eight {
		for _, n := range numbers() {
			left := new(big.Int).Mod(n, big.NewInt(8)).Int64() * index(t, eight, a) % 8
			is(t, "Mul of small order", at(t, a).Mul(scalar(t, n)), eight[left])
		}
	}
}

// index is the place of a in all.
func index(t *testing.T, all []spot, a spot) int64 {
	t.Helper()
	for i, b := range all {
		if a.same(b) {
			return int64(i)
		}
	}
	t.Fatal("not there")
	return 0
}

// TestMulCounts holds Mul against sums, one by one.
func TestMulCounts(t *testing.T) {
	for _, a := range []spot{base, small()[1], base.add(small()[3])} {
		p, sum := at(t, a), edw.Zero()
		for n := range int64(600) {
			if !p.Mul(scalar(t, big.NewInt(n))).Same(sum) {
				t.Fatalf("%d times %x", n, p.Bytes())
			}
			sum = sum.Add(p)
		}
	}
}

// TestMulBits has each bit of a scalar by itself.
func TestMulBits(t *testing.T) {
	p := edw.Base()
	for bit := range uint(253) {
		if !edw.Base().Mul(scalar(t, power(bit))).Same(p) {
			t.Fatalf("2^%d times", bit)
		}
		p = p.Add(p)
	}
}

// TestSame has each point come to in unlike ways, and holds all of them against
// each other.
func TestSame(t *testing.T) {
	all := points()
	five := scalar(t, big.NewInt(5))
	ways := func(a spot) []edw.Point {
		p := at(t, a)
		return []edw.Point{
			p,
			p.Neg().Neg(),
			p.Add(edw.Base()).Add(edw.Base().Neg()),
			edw.Zero().Add(p),
			p.Mul(five).Add(p.Neg()).Add(p.Add(p).Neg()).Add(p.Neg()),
			edw.Base().Mul(five).Add(p).Add(edw.Base().Neg().Mul(five)),
		}
	}
	for i, a := range all {
		for j, b := range all {
			for _, p := range ways(a)[:1+5*btoi(i == j)] {
				for _, q := range ways(b) {
					if p.Same(q) != (i == j) || q.Same(p) != (i == j) {
						t.Fatalf("Same of %x and %x", p.Bytes(), q.Bytes())
					}
				}
			}
		}
	}
}

func btoi(b bool) int {
	if b {
		return 1
	}
	return 0
}

// TestSameTakesBoth has points that have one coordinate in common.
func TestSameTakesBoth(t *testing.T) {
	half, eight := small()[4], small()
	for _, a := range points() {
		p := at(t, a)
		if q := p.Neg(); p.Same(q) != (a.x.Sign() == 0) {
			t.Errorf("%x: the other x", p.Bytes())
		}
		// The sum with (0, -1) has neither coordinate; its Neg has the same x.
		if q := p.Add(at(t, half)).Neg(); p.Same(q) != (a.y.Sign() == 0) {
			t.Errorf("%x: the other y", p.Bytes())
		}
	}
	if !at(t, eight[2]).Add(at(t, half)).Neg().Same(at(t, eight[2])) {
		t.Error("y 0 has no other one")
	}
}

func TestSmall(t *testing.T) {
	known := map[string]bool{}
	for _, s := range []string{
		"0100000000000000000000000000000000000000000000000000000000000000",
		"ecffffffffffffffffffffffffffffffffffffffffffffffffffffffffffff7f",
		"0000000000000000000000000000000000000000000000000000000000000000",
		"0000000000000000000000000000000000000000000000000000000000000080",
		"26e8958fc2b227b045c3f489f2ef98f0d5dfac05d3c63339b13802886d53fc05",
		"26e8958fc2b227b045c3f489f2ef98f0d5dfac05d3c63339b13802886d53fc85",
		"c7176a703d4dd84fba3c0b760d10670f2a2053fa2c39ccc64ec7fd7792ac037a",
		"c7176a703d4dd84fba3c0b760d10670f2a2053fa2c39ccc64ec7fd7792ac03fa",
	} {
		known[unhex(t, s)] = true
	}
	eight := small()
	for i, a := range eight {
		p := at(t, a)
		if !known[p.Bytes()] || !a.on() {
			t.Fatalf("%x is not of small order", p.Bytes())
		}
		delete(known, p.Bytes())
		if !p.Small() || !p.Neg().Small() || !p.Add(at(t, eight[1])).Small() {
			t.Errorf("%d: Small of %x", i, p.Bytes())
		}
		if p.Add(edw.Base()).Small() || edw.Base().Add(p).Neg().Small() {
			t.Errorf("%d: Small of what the base point is in", i)
		}
		if !p.Add(edw.Base()).Mul(scalar(t, plus(whole, -1))).Add(p.Add(edw.Base())).Small() {
			t.Errorf("%d: L times what the base point is in is not Small", i)
		}
	}
	if edw.Base().Small() || none.Small() || !edw.Zero().Small() {
		t.Error("Small of the base point, of none, of the zero point")
	}
	for _, a := range multiples()[1:] {
		if at(t, a).Small() {
			t.Errorf("Small of %x", a.bytes())
		}
	}
	for _, n := range numbers()[1:] {
		if edw.Base().Mul(scalar(t, n)).Small() {
			t.Errorf("Small of %x times the base point", n)
		}
	}
}

// TestRows goes on with what calls answered, in rows.
func TestRows(t *testing.T) {
	r := rand.New(rand.NewSource(5))
	all, often := points(), numbers()
	for range 12 {
		a := all[r.Intn(len(all))]
		p := at(t, a)
		for range 25 {
			switch b := all[r.Intn(len(all))]; r.Intn(8) {
			case 0:
				p, a = p.Neg(), a.neg()
			case 1:
				n := often[r.Intn(len(often))]
				p, a = p.Mul(scalar(t, n)), a.often(n)
			case 2:
				p, a = p.Add(p), a.add(a)
			case 3:
				p, a = at(t, b).Add(p), b.add(a)
			case 4:
				p, a = at(t, b).Add(edw.Base()).Add(p), b.add(base).add(a)
			default:
				p, a = p.Add(at(t, b)), a.add(b)
			}
			is(t, "in a row", p, a)
		}
	}
}

// TestFollows has what follows of the promises.
func TestFollows(t *testing.T) {
	all := points()
	for i, a := range all {
		p := at(t, a)
		if !p.Add(p.Neg()).Same(edw.Zero()) || !p.Neg().Add(p).Same(edw.Zero()) {
			t.Errorf("%x and its Neg", p.Bytes())
		}
		for j, b := range all {
			q, r := at(t, b), at(t, all[(i+j)%len(all)])
			if !p.Add(q).Same(q.Add(p)) || p.Add(q).Bytes() != q.Add(p).Bytes() {
				t.Errorf("the order of %x and %x", p.Bytes(), q.Bytes())
			}
			if !p.Add(q).Add(r).Same(p.Add(q.Add(r))) {
				t.Errorf("the order of %x, %x and %x", p.Bytes(), q.Bytes(), r.Bytes())
			}
		}
	}
	for _, a := range multiples() {
		p := at(t, a)
		for i, m := range numbers() {
			x, y := scalar(t, m), scalar(t, numbers()[(i*7+3)%len(numbers())])
			if !p.Mul(x.Add(y)).Same(p.Mul(x).Add(p.Mul(y))) {
				t.Errorf("the sum of %x and %x times %x", x.Bytes(), y.Bytes(), p.Bytes())
			}
			if !p.Mul(x.Neg()).Same(p.Mul(x).Neg()) || !p.Mul(x).Mul(y).Same(p.Mul(x.Mul(y))) {
				t.Errorf("%x and %x times %x", x.Bytes(), y.Bytes(), p.Bytes())
			}
		}
		last := p.Mul(scalar(t, plus(whole, -1)))
		if !last.Add(p).Same(edw.Zero()) || !last.Same(p.Neg()) {
			t.Errorf("L times %x", p.Bytes())
		}
	}
	if sum := edw.Base().Mul(scalar(t, plus(whole, -1))).Add(edw.Base()); sum.Bytes() != "\x01"+nothing[1:] {
		t.Errorf("L times the base point: %x", sum.Bytes())
	}
}

// TestElsewhere holds multiples of the base point against another program's.
func TestElsewhere(t *testing.T) {
	for _, seed := range some(200, 6) {
		want := ed25519.NewKeyFromSeed([]byte(seed)).Public().(ed25519.PublicKey)
		digest := sha512.Sum512([]byte(seed))
		secret, _ := order.Clamp(string(digest[:32]))
		n, _ := order.Of(secret)
		p := edw.Base().Mul(n)
		if p.Bytes() != string(want) {
			t.Errorf("%x times the base point: got %x, want %x", secret, p.Bytes(), want)
		}
		if q, err := edw.Decode(string(want)); err != api.OK || !q.Same(p) {
			t.Errorf("Decode of %x: %v", want, err)
		}
	}
}

// TestOtherForm holds multiples of the base point against those of the curve's
// other form, whose first coordinate is 1 + y by 1 - y.
func TestOtherForm(t *testing.T) {
	for _, secret := range some(100, 7) {
		want, _ := mont.Public(secret)
		clamped, _ := order.Clamp(secret)
		n, _ := order.Of(clamped)
		y := value(edw.Base().Mul(n).Bytes())
		y.SetBit(y, 255, 0)
		got := over(plus(y, 1), plus(new(big.Int).Neg(y), 1))
		if text(got) != want {
			t.Errorf("of %x: got %x, want %x", secret, text(got), want)
		}
	}
}

func TestCallsHangOnNothingElse(t *testing.T) {
	p, n := edw.Base(), scalar(t, value(some(1, 8)[0]))
	before, often := p.Bytes(), p.Mul(n).Bytes()
	p.Neg()
	p.Add(p)
	p.Mul(n)
	p.Small()
	edw.Decode("")
	edw.Decode(p.Mul(n).Bytes())
	if p.Bytes() != before || p.Mul(n).Bytes() != often || !p.Same(edw.Base()) {
		t.Error("a call made again answers something else")
	}
}
