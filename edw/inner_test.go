package edw

import (
	"strings"
	"testing"

	"isthmus/num"
	"isthmus/order"
)

// several are points whose z is not 1, and some of small order.
func several() []Point {
	out := []Point{Zero(), Base()}
	for range 20 {
		out = append(out, out[len(out)-1].plus(out[len(out)-2]))
	}
	for _, first := range []string{"\x00", "\xec", "\x03", "\x04", "\x06"} {
		fill := "\x00"
		if first == "\xec" {
			fill = "\xff"
		}
		s := []byte(first + strings.Repeat(fill, size-1))
		s[size-1] &= 127
		if p, err := Decode(string(s)); err == 0 {
			out = append(out, p, p.plus(Base()))
		}
	}
	return out
}

// isPoint tells whether the four numbers of p fit.
func isPoint(p Point) bool {
	xx, yy, zz := p.x.Mul(p.x), p.y.Mul(p.y), p.z.Mul(p.z)
	fits := p.x.Mul(p.y).Same(p.z.Mul(p.t))
	on := yy.Sub(xx).Mul(zz).Same(zz.Mul(zz).Add(factor().Mul(xx).Mul(yy)))
	return fits && on && !p.none()
}

func TestFactor(t *testing.T) {
	if !factor().Mul(num.Small(121666)).Same(num.Small(121665).Neg()) || !num.Canonical(factorBytes) {
		t.Error("d is another one")
	}
	// That sums hold for all points hangs on this.
	if _, is := factor().Root(); is {
		t.Error("d has a root")
	}
	if _, is := num.Small(1).Neg().Root(); !is {
		t.Error("-1 has none")
	}
}

func TestFourNumbersFit(t *testing.T) {
	all := several()
	if len(all) < 28 {
		t.Fatalf("%d points", len(all))
	}
	n, _ := order.Of(strings.Repeat("\xa5", size))
	for _, p := range all {
		for _, q := range append([]Point{p, p.Neg(), p.double(), p.doubled(4), p.Mul(n)}, all...) {
			if !isPoint(q) || !isPoint(p.plus(q)) || !isPoint(p.plus(q.Neg())) {
				t.Fatalf("%x and %x", p.Bytes(), q.Bytes())
			}
		}
	}
}

func TestDoubleIsPlusItself(t *testing.T) {
	for _, p := range several() {
		want := p
		for times := range 6 {
			if !p.doubled(times).Same(want) {
				t.Errorf("%x doubled %d times", p.Bytes(), times)
			}
			want = want.plus(want)
		}
		if !p.double().Same(p.plus(p)) {
			t.Errorf("the double of %x", p.Bytes())
		}
	}
}

func TestFew(t *testing.T) {
	for _, p := range several() {
		want := Zero()
		for i, got := range p.few() {
			if !got.Same(want) || !isPoint(got) {
				t.Errorf("%d times %x", i, p.Bytes())
			}
			want = want.plus(p)
		}
	}
}

func TestParted(t *testing.T) {
	for last := range 256 {
		s := strings.Repeat("\xee", size-1) + string([]byte{byte(last)})
		text, odd := parted(s)
		if text != s[:size-1]+string([]byte{byte(last & 127)}) || odd != (last > 127) {
			t.Errorf("%x: %x, %v", s, text, odd)
		}
	}
}

// TestNoneIsTheZeroValue tells that what is none has no numbers left.
func TestNoneIsTheZeroValue(t *testing.T) {
	b, n := Base(), order.Scalar{}
	bad, _ := Decode(strings.Repeat("\xff", size))
	short, _ := Decode("")
	for i, p := range []Point{bad, short, Point{}.Neg(), Point{}.Add(b), b.Add(Point{}), Point{}.Mul(n), Point{}.Add(Point{})} {
		if p != (Point{}) {
			t.Errorf("%d: %v", i, p)
		}
	}
}

func BenchmarkMul(b *testing.B) {
	p := Base()
	n, _ := order.Of(strings.Repeat("\xa5", size))
	for b.Loop() {
		p.Mul(n)
	}
}
