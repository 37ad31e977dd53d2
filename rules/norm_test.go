package rules_test

import (
	"math"
	"math/rand"
	"slices"
	"testing"

	"isthmus/api"
	"isthmus/rules"
)

const (
	last4 = math.MaxUint32
	last  = math.MaxUint64
)

// isNorm: P20.1, the normal form, that it is its own, and that l stays as it is.
func isNorm(t *testing.T, l []api.AddrSpan) {
	t.Helper()
	was := slices.Clone(l)
	got, want := rules.Norm(l), wantNorm(l)
	if !slices.Equal(got, want) {
		t.Fatalf("Norm(%v): %v, want %v", l, got, want)
	}
	if !slices.Equal(l, was) {
		t.Fatalf("Norm(%v) made %v of it", was, l)
	}
	if again := rules.Norm(got); !slices.Equal(again, want) {
		t.Fatalf("Norm(%v): %v", got, again)
	}
}

// isNormed is isNorm of what is told.
func isNormed(t *testing.T, l []api.AddrSpan, want ...api.AddrSpan) {
	t.Helper()
	if got := rules.Norm(l); !slices.Equal(got, want) {
		t.Errorf("Norm(%v): %v, want %v", l, got, want)
	}
	isNorm(t, l)
}

func spans(l ...api.AddrSpan) []api.AddrSpan { return l }

func of4(lo, hi uint64) api.AddrSpan { return api.AddrSpan{Lo: four(lo), Hi: four(hi)} }

func of6(lo, hi api.Addr) api.AddrSpan { return api.AddrSpan{Lo: lo, Hi: hi} }

func TestNormExamples(t *testing.T) {
	isNormed(t, nil)
	isNormed(t, spans())
	isNormed(t, spans(of4(5, 7), of4(1, 2), of4(3, 4)), of4(1, 7))
	isNormed(t, spans(of4(5, 7), of4(1, 2), of4(4, 4)), of4(1, 2), of4(4, 7))
	isNormed(t, spans(of4(5, 7), of4(1, 2)), of4(1, 2), of4(5, 7))
	isNormed(t, spans(of4(7, 7)), of4(7, 7))
	isNormed(t, spans(of4(7, 7), of4(7, 7)), of4(7, 7))
	isNormed(t, spans(of4(1, 9), of4(3, 4)), of4(1, 9))
	isNormed(t, spans(of4(3, 4), of4(1, 9), of4(10, 11)), of4(1, 11))
	isNormed(t, spans(of4(1, 9), of4(2, 3), of4(5, 12)), of4(1, 12))
	isNormed(t, spans(of4(1, 9), of4(1, 3), of4(1, 12)), of4(1, 12))
	isNormed(t, spans(of4(7, 5)))
	isNormed(t, spans(of4(7, 5), of4(6, 6)), of4(6, 6))
	isNormed(t, spans(of4(1, 2), of4(9, 3), of4(4, 5)), of4(1, 2), of4(4, 5))
}

// TestNormEdges: P20.1, the first and the last address of each version, which are next to
// nothing beyond, and where a number is carried.
func TestNormEdges(t *testing.T) {
	isNormed(t, spans(of4(0, last4)), of4(0, last4))
	isNormed(t, spans(of4(last4, last4), of4(0, 0)), of4(0, 0), of4(last4, last4))
	isNormed(t, spans(of4(last4, last4), of4(0, last4-1)), of4(0, last4))
	isNormed(t, spans(of6(six(0, 0), six(last, last))), of6(six(0, 0), six(last, last)))
	isNormed(t, spans(of6(six(last, last), six(last, last)), of6(six(0, 0), six(0, 0))), of6(six(0, 0), six(0, 0)), of6(six(last, last), six(last, last)))
	isNormed(t, spans(of6(six(0, 0), six(last, last)), of6(six(0, 0), six(0, 0)), of6(six(last, last), six(last, last))), of6(six(0, 0), six(last, last)))
	isNormed(t, spans(of6(six(0, 0), six(0, 0)), of4(last4, last4)), of4(last4, last4), of6(six(0, 0), six(0, 0)))
	isNormed(t, spans(of6(six(0, last4+1), six(0, last4+1)), of4(last4, last4)), of4(last4, last4), of6(six(0, last4+1), six(0, last4+1)))
	isNormed(t, spans(of6(six(0, 0), six(0, 9)), of4(0, 9)), of4(0, 9), of6(six(0, 0), six(0, 9)))
	isNormed(t, spans(of6(six(8, 0), six(8, 1)), of6(six(7, last), six(7, last))), of6(six(7, last), six(8, 1)))
	isNormed(t, spans(of6(six(8, 1), six(8, 1)), of6(six(7, last), six(7, last))), of6(six(7, last), six(7, last)), of6(six(8, 1), six(8, 1)))
	isNormed(t, spans(of6(six(8, 5), six(8, 6)), of6(six(7, 1), six(7, 4))), of6(six(7, 1), six(7, 4)), of6(six(8, 5), six(8, 6)))
	isNormed(t, spans(of6(six(7, 9), six(8, 1)), of6(six(8, 2), six(9, 0))), of6(six(7, 9), six(9, 0)))
	isNormed(t, spans(of6(six(last, 0), six(last, last)), of6(six(0, 0), six(last-1, last))), of6(six(0, 0), six(last, last)))
}

// TestNormMayNot: P20.1, spans that may not be have nothing, and spoil nothing.
func TestNormMayNot(t *testing.T) {
	wrong := spans(
		of4(1, 0), of4(0, last4+1), of4(last4+1, last4+1), of4(last4+1, last4+9), of4(0, last), of4(last, last),
		api.AddrSpan{Lo: api.Addr{Hi: 1}, Hi: api.Addr{Hi: 1}}, api.AddrSpan{Hi: api.Addr{Hi: 1}}, api.AddrSpan{Lo: api.Addr{Hi: 1}, Hi: four(9)},
		api.AddrSpan{Lo: four(0), Hi: six(0, 0)}, api.AddrSpan{Lo: four(0), Hi: six(last, last)}, api.AddrSpan{Lo: six(0, 0), Hi: four(9)},
		of6(six(0, 1), six(0, 0)), of6(six(1, 0), six(0, last)), of6(six(5, 7), six(5, 6)),
	)
	for _, s := range wrong {
		isNormed(t, spans(s))
		isNormed(t, spans(of4(3, 4), s, of4(6, 6)), of4(3, 4), of4(6, 6))
		isNormed(t, spans(s, of6(six(0, 3), six(0, 4)), of6(six(0, 5), six(0, 5)), s), of6(six(0, 3), six(0, 5)))
	}
	isNormed(t, wrong)
	isNormed(t, append(wrong, of4(0, 0)), of4(0, 0))
}

// spansOf are all spans of these ends.
func spansOf(ends ...api.Addr) []api.AddrSpan {
	var out []api.AddrSpan
	for _, lo := range ends {
		for _, hi := range ends {
			out = append(out, api.AddrSpan{Lo: lo, Hi: hi})
		}
	}
	return out
}

// TestNormPairs: P20.1, each pair of all spans between addresses at the edges, also such
// that may not be.
func TestNormPairs(t *testing.T) {
	all := spansOf(
		four(0), four(1), four(2), four(last4-1), four(last4), four(last4+1), api.Addr{Hi: 1},
		six(0, 0), six(0, 1), six(0, last), six(1, 0), six(last, last-1), six(last, last),
	)
	for _, a := range all {
		for _, b := range all {
			isNorm(t, spans(a, b))
		}
	}
}

// TestNormThree: P20.1, each three of all spans between few addresses that stand close.
func TestNormThree(t *testing.T) {
	for _, ends := range [][]api.Addr{
		{four(3), four(4), four(5), four(6)},
		{four(last4 - 1), four(last4), six(0, 0), six(0, 1)},
		{six(7, last-1), six(7, last), six(8, 0), six(8, 1)},
	} {
		all := spansOf(ends...)
		for _, a := range all {
			for _, b := range all {
				for _, c := range all {
					isNorm(t, spans(a, b, c))
				}
			}
		}
	}
}

// TestNormDrawn: P20.1, longer lists, of spans that stand close, or that are far.
func TestNormDrawn(t *testing.T) {
	r := rand.New(rand.NewSource(20))
	draw := func(room int) api.Addr {
		n := uint64(r.Intn(room))
		switch r.Intn(5) {
		case 0:
			return four(n)
		case 1:
			return four(last4 - n)
		case 2:
			return six(n%3, last-n)
		case 3:
			return six(last-n%3, n)
		}
		return six(n%3, n)
	}
	for range 6000 {
		var l []api.AddrSpan
		room := 4 + r.Intn(60)
		for range r.Intn(20) {
			lo, hi := draw(room), draw(room)
			if r.Intn(2) == 0 {
				hi = lo
				hi.Lo += uint64(r.Intn(4))
			}
			l = append(l, api.AddrSpan{Lo: lo, Hi: hi})
		}
		isNorm(t, l)
	}
}

// TestNormMany: P20.1, many spans: those that are next to one another, and those that are
// not, in no order.
func TestNormMany(t *testing.T) {
	const count = 100000
	r := rand.New(rand.NewSource(21))
	var tight, apart []api.AddrSpan
	for _, n := range r.Perm(count) {
		tight = append(tight, of4(uint64(n), uint64(n)))
		apart = append(apart, of6(six(5, uint64(2*n)), six(5, uint64(2*n))))
	}
	got := rules.Norm(append(apart, tight...))
	if len(got) != 1+count || got[0] != of4(0, count-1) {
		t.Fatalf("%d spans, the first %v", len(got), got[0])
	}
	for i, s := range got[1:] {
		if s != of6(six(5, uint64(2*i)), six(5, uint64(2*i))) {
			t.Fatalf("place %d: %v", i, s)
		}
	}
}

// TestNormOwn: R5, what is answered is new memory.
func TestNormOwn(t *testing.T) {
	l := spans(of4(1, 2), of4(5, 6))
	got := rules.Norm(l)
	for i := range got {
		got[i] = of4(9, 9)
	}
	if !slices.Equal(l, spans(of4(1, 2), of4(5, 6))) {
		t.Errorf("it became %v", l)
	}
	if again := rules.Norm(l); !slices.Equal(again, l) {
		t.Errorf("Norm: %v", again)
	}
}
