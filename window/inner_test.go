package window

import (
	"math"
	"math/bits"
	"reflect"
	"slices"
	"testing"

	"isthmus/api"
)

// TestMarks: each place has a bit of its own.
func TestMarks(t *testing.T) {
	for _, places := range []int{1, 2, 63, 64, 65, 127, 128, 129, 192} {
		m := room(places)
		if len(m) != (places+63)/64 || slices.Max(m) != 0 {
			t.Errorf("%d places: %x", places, m)
		}
		for i := range uint64(places) {
			m.set(i)
			if !m.has(i) || count(m) != int(i)+1 {
				t.Errorf("%d places, %d: %x", places, i, m)
			}
			m.set(i)
			if count(m) != int(i)+1 {
				t.Errorf("%d places, %d again: %x", places, i, m)
			}
		}
		for i := range uint64(places) {
			m.wipe(i)
			m.wipe(i)
			if m.has(i) || count(m) != places-int(i)-1 {
				t.Errorf("%d places, without %d: %x", places, i, m)
			}
		}
	}
}

func count(m marks) int {
	sum := 0
	for _, word := range m {
		sum += bits.OnesCount64(word)
	}
	return sum
}

// TestRefusedChangesNothing: May, Highest, Copy, and a Mark that answers an error leave
// a window as it was.
func TestRefusedChangesNothing(t *testing.T) {
	for _, size := range []int{1, 2, 63, 64, 65, 127, 128, 129, api.MaxWindow} {
		w, _ := New(size)
		s := uint64(size)
		for _, n := range []uint64{0, 1, s - 1, s, s + 1, 3 * s, 5*s + 1, 1 << 40, 1<<40 + s - 1, math.MaxUint64 - s, math.MaxUint64} {
			was := w.Copy()
			for _, x := range []uint64{0, 1, n - 1, n, n + 1, n + s, n - s, math.MaxUint64} {
				if err := w.May(x); err != api.OK && w.Mark(x) != err {
					t.Errorf("size %d: Mark(%d) is not May's %v", size, x, err)
				}
			}
			w.Highest()
			w.Copy()
			if !reflect.DeepEqual(w, was) {
				t.Errorf("size %d, ahead of %d: %+v was %+v", size, n, w, was)
			}
			w.Mark(n)
		}
	}
}

// TestKeepsNoMore: there are as many marks as there are numbers that are not old, and
// the room for them never grows.
func TestKeepsNoMore(t *testing.T) {
	for _, size := range []int{1, 2, 63, 64, 65, 127, 128, 129, api.MaxWindow} {
		for leap := range uint64(2*size + 2) {
			w, _ := New(size)
			for n := range uint64(size) {
				w.Mark(n)
			}
			w.Mark(uint64(size) + leap)
			if left := max(0, size-1-int(leap)); count(w.marks) != left+1 || len(w.marks) != (size+63)/64 {
				t.Fatalf("size %d, %d beyond it: %d marks in %d words", size, leap, count(w.marks), len(w.marks))
			}
		}
	}
}

// TestNoneStaysNone: what New did not make is as it was, behind every call.
func TestNoneStaysNone(t *testing.T) {
	var w Window
	w.May(0)
	w.May(1)
	w.Mark(0)
	w.Mark(math.MaxUint64)
	w.Highest()
	w.Copy()
	if !reflect.DeepEqual(w, Window{}) {
		t.Errorf("%+v", w)
	}
}
