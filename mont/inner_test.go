package mont

import (
	"strings"
	"testing"

	"isthmus/num"
)

// numbered has the 32 bytes of a small number.
func numbered(n int) string { return num.Small(uint32(n)).Bytes() }

// TestFewTimes has numbers that no secret is, since each is clamped: 0, 1 and what
// comes next.
func TestFewTimes(t *testing.T) {
	x := num.Small(9)
	if !times(numbered(0), x).Same(num.Elem{}) {
		t.Error("not at all is not 0")
	}
	if !times(numbered(1), x).Same(x) {
		t.Error("once is another one")
	}
	for m := 1; m < 12; m++ {
		for n := 1; n < 12; n++ {
			if !times(numbered(m), times(numbered(n), x)).Same(times(numbered(m*n), x)) {
				t.Errorf("%d times %d", m, n)
			}
		}
	}
}

// TestDouble holds a step against the formula of a tangent: (x^2 - 1)^2 over
// 4 (x^3 + 486662 x^2 + x).
func TestDouble(t *testing.T) {
	one := num.Small(1)
	for n := range uint32(200) {
		x := num.Small(n)
		top := x.Mul(x).Sub(one)
		cubic := x.Mul(x).Mul(x).Add(num.Small(486662).Mul(x).Mul(x)).Add(x)
		want := top.Mul(top).Mul(num.Small(4).Mul(cubic).Inv())
		if !times(numbered(2), x).Same(want) {
			t.Errorf("twice %d", n)
		}
	}
}

// TestStepKeepsTheDifference tells that a step from n and n + 1 times, in both
// orders, leaves two that are next to each other again.
func TestStepKeepsTheDifference(t *testing.T) {
	x, one := num.Small(9), num.Small(1)
	at := func(n int) point { return point{times(numbered(n), x), one} }
	like := func(a point, n int) bool { return a.x.Same(a.z.Mul(times(numbered(n), x))) }
	for n := 1; n < 30; n++ {
		double, both := step(at(n), at(n+1), x)
		if !like(double, 2*n) || !like(both, 2*n+1) {
			t.Errorf("a step from %d", n)
		}
		double, both = step(at(n+1), at(n), x)
		if !like(double, 2*n+2) || !like(both, 2*n+1) {
			t.Errorf("a step from %d, the other way", n)
		}
	}
}

func TestBitAt(t *testing.T) {
	for place := range 256 {
		b := make([]byte, 32)
		b[place/8] = 1 << (place % 8)
		for i := range 256 {
			got := bitAt(string(b), i)
			if (i == place) != (got == 1) || got > 1 || got < 0 {
				t.Fatalf("bit %d of that of %d: %d", i, place, got)
			}
			if bitAt(strings.Repeat("\xff", 32), i) != 1 {
				t.Fatalf("bit %d of all", i)
			}
		}
	}
}

func BenchmarkShared(b *testing.B) {
	key, _ := Public(strings.Repeat("k", 32))
	for b.Loop() {
		Shared(strings.Repeat("s", 32), key)
	}
}
