package window_test

import (
	"fmt"
	"math/bits"
	"testing"

	"isthmus/api"
	"isthmus/window"
)

// model is a window as P17.1 and P17.2 write it, once more: a plain set of all numbers
// that were marked, old ones too, and the highest of them.
type model struct {
	size    uint64
	marked  map[uint64]bool
	highest uint64
}

func newModel(size int) *model {
	return &model{size: uint64(size), marked: map[uint64]bool{}}
}

// old: n and the size together are no more than the highest number.
func (m *model) old(n uint64) bool {
	sum, beyond := bits.Add64(n, m.size, 0)
	return len(m.marked) > 0 && beyond == 0 && sum <= m.highest
}

func (m *model) may(n uint64) api.Errno {
	switch {
	case m.old(n):
		return api.ErrOld
	case m.marked[n]:
		return api.ErrThere
	}
	return api.OK
}

func (m *model) mark(n uint64) api.Errno {
	err := m.may(n)
	if err == api.OK {
		m.marked[n] = true
		m.highest = max(m.highest, n)
	}
	return err
}

// pair is a window and its model, which are told the same, and all that they were told.
type pair struct {
	*testing.T
	w    *window.Window
	m    *model
	told []uint64
}

func newPair(t *testing.T, size int) *pair {
	t.Helper()
	return &pair{T: t, w: made(t, size), m: newModel(size)}
}

func made(t *testing.T, size int) *window.Window {
	t.Helper()
	w, err := window.New(size)
	if w == nil || err != api.OK {
		t.Fatalf("New(%d): %v, %v", size, w, err)
	}
	return w
}

// name is what p is, and the last things that it was told.
func (p *pair) name() string {
	return fmt.Sprintf("size %d, .. %d", p.m.size, p.told[max(0, len(p.told)-8):])
}

// mark marks the numbers, one by one; May says ahead of it what Mark will.
func (p *pair) mark(numbers ...uint64) *pair {
	p.Helper()
	for _, n := range numbers {
		p.may(n)
		p.told = append(p.told, n)
		if got, want := p.w.Mark(n), p.m.mark(n); got != want {
			p.Fatalf("%s: Mark: got %v, want %v", p.name(), got, want)
		}
		p.isHighest()
	}
	return p
}

// may asks for the numbers, one by one.
func (p *pair) may(numbers ...uint64) *pair {
	p.Helper()
	for _, n := range numbers {
		if got, want := p.w.May(n), p.m.may(n); got != want {
			p.Fatalf("%s: May(%d): got %v, want %v", p.name(), n, got, want)
		}
	}
	return p
}

func (p *pair) isHighest() {
	p.Helper()
	if n, is := p.w.Highest(); n != p.m.highest || is != (len(p.m.marked) > 0) {
		p.Fatalf("%s: Highest: got %d, %v, want %d, %v", p.name(), n, is, p.m.highest, len(p.m.marked) > 0)
	}
}

// whole asks for all numbers of the window, for more than it holds below and above
// them, for those at both ends of all numbers, and for the highest one.
func (p *pair) whole() *pair {
	p.Helper()
	p.isHighest()
	from, below := bits.Sub64(p.m.highest, 2*p.m.size+3, 0)
	if below != 0 {
		from = 0
	}
	for i := range 3*p.m.size + 70 {
		p.may(from+i, i, ^i) // from + i may go round, and is a number at the other end then
	}
	return p
}
