package window_test

import (
	"math"
	"math/rand"
	"testing"

	"isthmus/api"
	"isthmus/window"
)

// sizes are the least ones, those around one word of marks and two, and the greatest.
func sizes() []int {
	return []int{1, 2, 3, 63, 64, 65, 127, 128, 129, api.MaxWindow}
}

// near are the numbers that are x, and those around it, as far as they are numbers.
func near(x uint64) []uint64 {
	out := []uint64{x}
	for i := range uint64(2) {
		if x > i {
			out = append(out, x-i-1)
		}
		if x < math.MaxUint64-i {
			out = append(out, x+i+1)
		}
	}
	return out
}

// edges are the numbers around 0, the size, both bounds of int64, 2^32 and 2^64.
func edges(size uint64) []uint64 {
	var out []uint64
	for _, x := range []uint64{0, size, 2 * size, 63, 128, 1 << 32, 1 << 63, math.MaxUint64 - size, math.MaxUint64} {
		out = append(out, near(x)...)
	}
	return out
}

// leaps are by how much a number may go beyond the highest one: by less than the size,
// by just it, by more, and by many times it.
func leaps(size uint64) []uint64 {
	out := []uint64{1, 2, 62, 63, 64, 65, 127, 128, 129, size/2 + 1, 2*size - 1, 2 * size, 2*size + 1, 3 * size, 64 * size, 1000*size - 1, 1000 * size, 1000*size + 1, 1 << 32, 1 << 63}
	for _, x := range near(size) {
		if x > 0 {
			out = append(out, x)
		}
	}
	return out
}

func TestExamples(t *testing.T) {
	w := made(t, 3)
	for _, c := range []struct {
		n    uint64
		want api.Errno
	}{{5, api.OK}, {5, api.ErrThere}, {3, api.OK}, {2, api.ErrOld}, {9, api.OK}} {
		if err := w.Mark(c.n); err != c.want {
			t.Errorf("Mark(%d): %v, want %v", c.n, err, c.want)
		}
	}
	if err := w.May(7); err != api.OK {
		t.Errorf("May(7): %v", err)
	}
	if err := w.May(6); err != api.ErrOld {
		t.Errorf("May(6): %v", err)
	}
	if n, is := w.Highest(); n != 9 || !is {
		t.Errorf("Highest: %d, %v", n, is)
	}
	if api.ErrOld != 170 || api.MaxWindow != 4096 {
		t.Errorf("%d, %d", api.ErrOld, api.MaxWindow)
	}
}

// TestNew: P17.1, sizes that may not be, and all that may.
func TestNew(t *testing.T) {
	for _, size := range []int{
		0, -1, -2, -63, -64, -65, -4096, -1 << 16, math.MinInt32, math.MinInt, math.MinInt + 1, math.MinInt + 64,
		4097, 4098, 4160, 8192, 1 << 16, math.MaxInt32, math.MaxInt, math.MaxInt - 1, math.MaxInt - 63,
	} {
		if w, err := window.New(size); w != nil || err != api.ErrArg {
			t.Errorf("New(%d): %v, %v", size, w, err)
		}
	}
	for size := 1; size <= 4096; size++ {
		s := uint64(size)
		newPair(t, size).may(edges(s)...).mark(s).may(edges(s)...).mark(0, 1, s-1, s+1).may(edges(s)...)
	}
}

// TestEmpty: P17.1 and P17.2, ahead of the first mark there is no highest number, and
// none that may not be marked; the first one may be any.
func TestEmpty(t *testing.T) {
	for _, size := range sizes() {
		newPair(t, size).whole()
		for _, first := range edges(uint64(size)) {
			p := newPair(t, size)
			p.isHighest()
			p.mark(first).whole()
			p.mark(first).whole()
			p.mark(edges(uint64(size))...).whole()
		}
	}
}

// TestZero: the number 0 is marked as all others are, and is not the same as none.
func TestZero(t *testing.T) {
	for _, size := range sizes() {
		w := made(t, size)
		if n, is := w.Highest(); n != 0 || is {
			t.Errorf("size %d: Highest of none: %d, %v", size, n, is)
		}
		if first, again := w.Mark(0), w.Mark(0); first != api.OK || again != api.ErrThere {
			t.Errorf("size %d: Mark(0), Mark(0): %v, %v", size, first, again)
		}
		if n, is := w.Highest(); n != 0 || !is {
			t.Errorf("size %d: Highest: %d, %v", size, n, is)
		}
	}
}

// TestHighest: P17.2, marks below the highest number, and such as are refused, leave it.
func TestHighest(t *testing.T) {
	for _, size := range sizes() {
		s := uint64(size)
		for _, top := range []uint64{s + 1, 1000, 1 << 40, math.MaxUint64} {
			top = max(top, s+1)
			w := made(t, size)
			for _, n := range []uint64{top, top - s + 1, top - s/2, top - s, top - s - 1, top, 0, 1} {
				w.Mark(n)
				if h, is := w.Highest(); h != top || !is {
					t.Errorf("size %d, behind %d: Highest: %d, %v, want %d", size, n, h, is, top)
				}
			}
		}
	}
}

// TestOldEdge: P17.1, the last number that is not old, and the first one that is.
func TestOldEdge(t *testing.T) {
	for _, size := range sizes() {
		s := uint64(size)
		for _, top := range []uint64{s, s + 1, 2 * s, 2*s + 1, 1<<32 + 5, 1 << 63, math.MaxUint64 - 1, math.MaxUint64} {
			w := made(t, size)
			w.Mark(top)
			for _, n := range []uint64{0, top - s} {
				if may, mark := w.May(n), w.Mark(n); may != api.ErrOld || mark != api.ErrOld {
					t.Errorf("size %d, %d behind %d: %v, %v", size, n, top, may, mark)
				}
			}
			last, want := top-s+1, api.OK
			if size == 1 {
				want = api.ErrThere
			}
			if may, mark, again := w.May(last), w.Mark(last), w.Mark(last); may != want || mark != want || again != api.ErrThere {
				t.Errorf("size %d, %d behind %d: %v, %v, %v", size, last, top, may, mark, again)
			}
		}
	}
}

// TestLeaps: from a window that is marked whole, or at every other number, a leap by
// each number of up to twice the size and more, of the greatest size by those around
// its edges: what stays is marked, what comes in is not.
func TestLeaps(t *testing.T) {
	for _, size := range sizes() {
		s := uint64(size)
		by := leaps(s)
		if size <= 129 {
			for i := range 2*s + 70 {
				by = append(by, i+1)
			}
		}
		froms := []uint64{0, 12345}
		if size <= 129 {
			froms = append(froms, 1, s-1, s, 1<<40+7)
		}
		for _, from := range froms {
			for _, step := range []uint64{1, 2} {
				for _, leap := range by {
					p := newPair(t, size)
					for n := from; n < from+s; n += step {
						p.mark(n)
					}
					p.mark(p.m.highest + leap).whole()
				}
			}
		}
	}
}

// TestLeapsToTheEnd: up to the last number of all, by leaps of any kind; it is no less
// marked than others, and behind it come no more.
func TestLeapsToTheEnd(t *testing.T) {
	for _, size := range sizes() {
		for _, leap := range leaps(uint64(size)) {
			p := newPair(t, size).mark(math.MaxUint64-leap, math.MaxUint64)
			p.mark(edges(uint64(size))...).whole()
			p = newPair(t, size)
			for n := uint64(math.MaxUint64 - 3*4096); n < math.MaxUint64-leap%4096; n += leap%4096 + 1 {
				p.mark(n)
			}
			p.mark(math.MaxUint64-1, math.MaxUint64, 0, math.MaxUint64).whole()
		}
	}
}

// TestRowsOfLeaps: leaps one behind another one, of every two kinds, with marks at the
// edges of the window between them.
func TestRowsOfLeaps(t *testing.T) {
	for _, size := range sizes() {
		s := uint64(size)
		for _, a := range leaps(s) {
			for _, b := range leaps(s) {
				p := newPair(t, size).mark(s / 2)
				for _, leap := range []uint64{a, b, a, b} {
					top := p.m.highest
					if leap > math.MaxUint64-top {
						continue // there is no such number
					}
					p.mark(top + leap)
					for _, below := range append(near(s), near(s/2)...) {
						if below <= top {
							p.mark(top-below, top+leap-below)
						}
					}
				}
				if size <= 129 {
					p.whole()
				}
			}
		}
	}
}

// TestSmallRows: every row of five numbers, at both ends of all numbers and in the
// midst of them, in the smallest windows.
func TestSmallRows(t *testing.T) {
	const count, kinds = 5, 8
	for _, size := range []int{1, 2, 3, 5, 7} {
		for _, from := range []uint64{0, 1<<63 - 3, math.MaxUint64 - kinds + 1} {
			for row := range 1 << (3 * count) {
				p := newPair(t, size)
				for i := range count {
					p.mark(from + uint64(row>>(3*i))%kinds)
				}
				for i := range uint64(kinds) {
					p.may(from + i)
				}
			}
		}
	}
}

// draw is a number by its kind, and by the highest one.
type draw func(r *rand.Rand, size, highest uint64) uint64

// some is one of so many numbers.
func some(r *rand.Rand, many uint64) uint64 { return r.Uint64() % many }

// beside is h and so many more, less so many, or the last number on that side.
func beside(h, more, less uint64) uint64 {
	switch {
	case more < less:
		return h - min(h, less-more)
	case more-less > math.MaxUint64-h:
		return math.MaxUint64
	}
	return h + (more - less)
}

func draws() map[string]draw {
	return map[string]draw{
		"near":    func(r *rand.Rand, size, h uint64) uint64 { return beside(h, 3, some(r, 9)) },
		"within":  func(r *rand.Rand, size, h uint64) uint64 { return beside(h, 2, some(r, size+5)) },
		"around":  func(r *rand.Rand, size, h uint64) uint64 { return beside(h, size+2, some(r, 3*size+4)) },
		"far":     func(r *rand.Rand, size, h uint64) uint64 { return r.Uint64() >> some(r, 64) },
		"rising":  func(r *rand.Rand, size, h uint64) uint64 { return beside(h, 1+some(r, 4), 0) },
		"leaping": func(r *rand.Rand, size, h uint64) uint64 { return beside(h, size+2, some(r, 5)) },
		"falling": func(r *rand.Rand, size, h uint64) uint64 { return beside(h, 0, some(r, size+3)) },
		"small":   func(r *rand.Rand, size, h uint64) uint64 { return some(r, 3*size) },
		"last":    func(r *rand.Rand, size, h uint64) uint64 { return math.MaxUint64 - some(r, 3*size) },
	}
}

// TestDrawnRows: P17.1 to P17.3, rows of numbers of one kind each, from ones at both
// ends and in the midst of all numbers on.
func TestDrawnRows(t *testing.T) {
	for kind, draw := range draws() {
		t.Run(kind, func(t *testing.T) {
			r := rand.New(rand.NewSource(17))
			for _, size := range sizes() {
				for _, first := range []uint64{0, 1, uint64(size), 1 << 32, 1 << 63, -uint64(2 * size), math.MaxUint64} {
					p := newPair(t, size).mark(first)
					for range 600 {
						p.mark(draw(r, uint64(size), p.m.highest))
					}
					p.whole()
				}
			}
		})
	}
}

// TestMixedRows: rows of numbers of all kinds, doubled now and then, that are asked for
// whole on the way.
func TestMixedRows(t *testing.T) {
	kinds := []string{"near", "within", "around", "rising", "leaping", "falling", "within", "rising", "small"}
	all := draws()
	r := rand.New(rand.NewSource(18))
	for _, size := range sizes() {
		for i := range 12 {
			p := newPair(t, size)
			if i%3 > 0 { // else from none on
				p.mark([]uint64{1 << 40, -uint64(100 * size)}[i%3-1])
			}
			for range 20 {
				draw := all[kinds[r.Intn(len(kinds))]]
				for range r.Intn(60) {
					n := draw(r, uint64(size), p.m.highest)
					if r.Intn(4) == 0 && len(p.told) > 0 {
						n = p.told[r.Intn(len(p.told))]
					}
					p.mark(n)
				}
				p.whole()
			}
		}
	}
}

// TestOnce: P17.3, of all numbers in any order, each as often as may be: none is marked
// twice, and if the window holds them all, each is marked.
func TestOnce(t *testing.T) {
	r := rand.New(rand.NewSource(19))
	for _, size := range sizes() {
		for _, many := range []int{size, size + 1, 3 * size, 10 * size} {
			w, times := made(t, size), map[uint64]int{}
			from := r.Uint64() >> 1
			for range 3 {
				for _, i := range r.Perm(many) {
					if w.Mark(from+uint64(i)) == api.OK {
						times[from+uint64(i)]++
					}
				}
			}
			for n, count := range times {
				if count != 1 {
					t.Errorf("size %d: %d was marked %d times", size, n-from, count)
				}
			}
			if many == size && len(times) != many {
				t.Errorf("size %d: %d of %d were marked", size, len(times), many)
			}
		}
	}
}

// TestInOrder: numbers that rise one by one are all marked, and so are those that fall
// one by one, as many as the size is.
func TestInOrder(t *testing.T) {
	for _, size := range sizes() {
		w := made(t, size)
		for n := range uint64(3*size + 200) {
			if err := w.Mark(n); err != api.OK {
				t.Fatalf("size %d: Mark(%d): %v", size, n, err)
			}
		}
		w = made(t, size)
		for i := range uint64(size + 3) {
			want := api.OK
			if i >= uint64(size) {
				want = api.ErrOld
			}
			if err := w.Mark(1<<40 - i); err != want {
				t.Fatalf("size %d: Mark(2^40 - %d): %v", size, i, err)
			}
		}
	}
}

// TestMayChangesNothing: a window that is asked for any numbers ahead of each mark
// answers as one that never is.
func TestMayChangesNothing(t *testing.T) {
	all := draws()
	for _, size := range sizes() {
		r := rand.New(rand.NewSource(20))
		asked, other := made(t, size), made(t, size)
		for range 3000 {
			high, _ := other.Highest()
			for _, kind := range []string{"far", "leaping", "around", "within", "last"} {
				asked.May(all[kind](r, uint64(size), high))
			}
			n := all["around"](r, uint64(size), high)
			if a, b := asked.Mark(n), other.Mark(n); a != b {
				t.Fatalf("size %d: Mark(%d): %v, %v", size, n, a, b)
			}
		}
		isSame(t, asked, other)
	}
}

// isSame holds two windows of the same size against each other.
func isSame(t *testing.T, a, b *window.Window) {
	t.Helper()
	high, is := a.Highest()
	if n, also := b.Highest(); n != high || also != is {
		t.Fatalf("Highest: %d, %v; %d, %v", high, is, n, also)
	}
	for i := range uint64(3 * api.MaxWindow) {
		if n := high + api.MaxWindow - i; a.May(n) != b.May(n) {
			t.Fatalf("May(%d): %v, %v", n, a.May(n), b.May(n))
		}
	}
}

// TestCopy: P17.2, a copy has the same numbers and the same size, and neither of both
// changes the other one.
func TestCopy(t *testing.T) {
	all := draws()
	r := rand.New(rand.NewSource(21))
	for _, size := range sizes() {
		p := newPair(t, size)
		for range 30 {
			first, second := p.w.Copy(), p.w.Copy()
			if first == nil || first == p.w || first == second {
				t.Fatalf("size %d: no new window", size)
			}
			isSame(t, p.w, first)
			for range 50 {
				first.Mark(all["within"](r, uint64(size), p.m.highest))
			}
			p.whole() // the copy was marked, and not this one
			isSame(t, p.w, second)
			first.Mark(p.m.highest + uint64(2*size))
			p.whole() // the copy was wiped, and not this one
			for range 20 {
				p.mark(all["around"](r, uint64(size), p.m.highest))
			}
			q := &pair{T: t, w: p.w.Copy(), m: p.m, told: p.told}
			q.whole()
			p.w = q.w.Copy() // a copy of a copy goes on as the first one would
		}
	}
}

// TestCopyStays: a copy is as it was, whatever is marked in what it was made of.
func TestCopyStays(t *testing.T) {
	for _, size := range sizes() {
		for _, leap := range leaps(uint64(size)) {
			p := newPair(t, size).mark(7, 9, uint64(size)+9)
			c := p.w.Copy()
			p.w.Mark(uint64(size) + 10)
			p.w.Mark(uint64(size) + 9 + leap)
			(&pair{T: t, w: c, m: p.m, told: p.told}).whole()
		}
	}
}

// TestCopyOfNone: a copy of a window without numbers has none, and takes them.
func TestCopyOfNone(t *testing.T) {
	for _, size := range sizes() {
		p := newPair(t, size)
		c := &pair{T: t, w: p.w.Copy(), m: newModel(size)}
		c.whole()
		c.mark(uint64(size), 0, 1).whole()
		p.whole()
	}
}

// TestApart: two windows of New have nothing in common.
func TestApart(t *testing.T) {
	for _, size := range sizes() {
		a, b := newPair(t, size), newPair(t, size)
		a.mark(5, 6).whole()
		b.whole()
		b.mark(6, 7, uint64(size)+7).whole()
		a.whole()
	}
}

// TestNoWindow: P17.1, P17.2 and R3, a nil window, and such as New did not make.
func TestNoWindow(t *testing.T) {
	for _, w := range []*window.Window{nil, {}, new(window.Window)} {
		for range 3 {
			for _, n := range edges(64) {
				if may, mark := w.May(n), w.Mark(n); may != api.ErrNil || mark != api.ErrNil {
					t.Errorf("%d: May, Mark: %v, %v", n, may, mark)
				}
			}
			if n, is := w.Highest(); n != 0 || is {
				t.Errorf("Highest: %d, %v", n, is)
			}
			if c := w.Copy(); c != nil {
				t.Errorf("Copy: %+v", c)
			}
		}
	}
}
