package tunnel

import (
	"math"
	"reflect"
	"strings"
	"testing"

	"isthmus/aead"
	"isthmus/api"
)

func made(t *testing.T, first bool, l api.Limits) *Tunnel {
	t.Helper()
	x, err := New(api.Got{Send: strings.Repeat("s", 32), Recv: strings.Repeat("r", 32)}, first, 5, l)
	if err != api.OK {
		t.Fatal(err)
	}
	return x
}

func limits() api.Limits {
	return api.Limits{RekeyCount: 2, Count: 3, Rekey: 10, Life: 20, Window: 8}
}

func sealed(n uint64, s string) string {
	c, _ := aead.Seal(strings.Repeat("r", 32), aead.Nonce(n), "", s)
	return c
}

// kept is all that a tunnel keeps, but for the function, which never changes.
func kept(t *Tunnel) end {
	e := *t.end
	e.Window, e.age = e.Copy(), nil
	return e
}

// TestLastNumbers: P18.2 and W6, the numbers up to MaxCount, which nobody comes to by
// sealing: the last one is Count less one, and behind it is none.
func TestLastNumbers(t *testing.T) {
	for _, count := range []uint64{10, 1 << 32, api.MaxCount - 1, api.MaxCount} {
		l := limits()
		l.RekeyCount, l.Count = count-1, count
		x := made(t, true, l)
		x.end.sent = count - 2
		for i := count - 2; i < count; i++ {
			if x.Wants(5) != (i == count-1) {
				t.Errorf("count %d, sealed %d: Wants", count, i)
			}
			n, c, err := x.Seal(5, "text")
			if s, _ := aead.Open(strings.Repeat("s", 32), aead.Nonce(i), "", c); n != i || s != "text" || err != api.OK {
				t.Errorf("count %d: %d, %x, %v", count, n, c, err)
			}
		}
		for range 3 {
			if n, c, err := x.Seal(5, "text"); n != 0 || c != "" || err != api.ErrOver || x.Sent() != count {
				t.Errorf("count %d: %d, %x, %v, %d", count, n, c, err, x.Sent())
			}
		}
	}
}

// TestRefusedChangesNothing: P18.6, whatever is answered with an error, or only asked
// for, leaves a tunnel as it was.
func TestRefusedChangesNothing(t *testing.T) {
	for _, first := range []bool{true, false} {
		x := made(t, first, limits())
		for i := range uint64(3) {
			was := kept(x)
			for _, n := range []uint64{0, 1, 2, 3, 8, 9, math.MaxUint64} {
				for _, c := range []string{"", sealed(n, "text")[1:], sealed(n+1, "text"), strings.Repeat("x", 1<<16+17)} {
					x.Open(5, n, c)
				}
				x.Open(25, n, sealed(n, "text"))
			}
			x.Open(5, 3, sealed(3, "text"))
			x.Seal(25, "text")
			x.Seal(5, strings.Repeat("x", 1<<16+1))
			for _, now := range []uint64{0, 5, 15, 25, math.MaxUint64} {
				x.Over(now)
				x.Wants(now)
			}
			x.Sure()
			x.Sent()
			if !first && i == 0 {
				x.Seal(5, "text")
			}
			if got := kept(x); !reflect.DeepEqual(got, was) {
				t.Errorf("%+v was %+v", got, was)
			}
			if s, err := x.Open(5, i, sealed(i, "text")); s != "text" || err != api.OK {
				t.Errorf("Open: %q, %v", s, err)
			}
			x.Seal(5, "text")
		}
	}
}

// TestOpened: what opens changes the window and makes sure, and nothing else; what is
// sealed is counted, and nothing else.
func TestOpened(t *testing.T) {
	x := made(t, false, limits())
	was := kept(x)
	x.Open(5, 1, sealed(1, "text"))
	was.sure = true
	was.Mark(1)
	if got := kept(x); !reflect.DeepEqual(got, was) {
		t.Errorf("%+v, want %+v", got, was)
	}
	x.Seal(5, "text")
	was.sent = 1
	if got := kept(x); !reflect.DeepEqual(got, was) {
		t.Errorf("%+v, want %+v", got, was)
	}
}

// TestKeysAreGone: P18.4 and P18.5, of all that is wiped, by Wipe, by Put or by Tidy.
func TestKeysAreGone(t *testing.T) {
	gone := func(x *Tunnel) bool { return x.end.send == "" && x.end.recv == "" }
	x := made(t, true, limits())
	if gone(x) {
		t.Error("gone ahead of it")
	}
	x.Wipe()
	if !gone(x) {
		t.Error("Wipe")
	}
	s := NewSlots()
	var all []*Tunnel
	for i := range uint32(5) {
		all = append(all, made(t, true, limits()))
		s.Put(i, all[i])
	}
	for i, x := range all {
		if gone(x) != (i < 2) {
			t.Errorf("Put: %d", i)
		}
	}
	s.Tidy(24)
	if gone(all[2]) || gone(all[3]) || gone(all[4]) {
		t.Error("Tidy, too early")
	}
	s.Tidy(25)
	if !gone(all[2]) || !gone(all[3]) || !gone(all[4]) {
		t.Error("Tidy")
	}
}

// TestSlotsKeepNoMore: behind what went nothing of it is left in the list's memory.
func TestSlotsKeepNoMore(t *testing.T) {
	s := NewSlots()
	left := func(want int) {
		t.Helper()
		if len(s.list) != want {
			t.Errorf("%d slots, want %d", len(s.list), want)
		}
		for _, x := range s.list[len(s.list):cap(s.list)] {
			if x != (slot{}) {
				t.Errorf("slot %d is left", x.id)
			}
		}
	}
	for i := range uint32(10) {
		s.Put(i, made(t, true, limits()))
		left(min(int(i)+1, 3))
	}
	s.list[1].tunnel.Wipe()
	s.Tidy(5)
	left(2)
	s.Tidy(25)
	left(0)
}

// TestNoneStaysNone: R3, what New and NewSlots did not make is as it was, behind every
// call.
func TestNoneStaysNone(t *testing.T) {
	var x Tunnel
	x.Seal(5, "text")
	x.Open(5, 0, sealed(0, "text"))
	x.Wipe()
	if x != (Tunnel{}) {
		t.Errorf("%+v", x)
	}
	var s Slots
	s.Put(1, made(t, true, limits()))
	s.Tidy(25)
	if s.made || s.list != nil {
		t.Errorf("%+v", s)
	}
}

// TestAge: the words of the chapter, at the edges of all times.
func TestAge(t *testing.T) {
	const most = math.MaxUint64
	for _, c := range []struct{ made, now, want uint64 }{
		{0, 0, 0}, {0, 1, 1}, {1, 0, 0}, {5, 4, 0}, {5, 5, 0}, {5, 6, 1}, {0, most, most}, {1, most, most - 1},
		{most, 0, 0}, {most, most - 1, 0}, {most, most, 0}, {most - 1, most, 1}, {1 << 63, 1<<63 - 1, 0}, {1<<63 - 1, 1 << 63, 1},
	} {
		if got := ageSince(c.made)(c.now); got != c.want {
			t.Errorf("made at %d, %d: %d, want %d", c.made, c.now, got, c.want)
		}
	}
}

func BenchmarkSealOpen(b *testing.B) {
	l := api.Limits{RekeyCount: 1, Count: api.MaxCount, Rekey: 1, Life: 10, Window: 64}
	g := api.Got{Send: strings.Repeat("s", 32), Recv: strings.Repeat("r", 32)}
	one, _ := New(g, true, 5, l)
	g.Send, g.Recv = g.Recv, g.Send
	two, _ := New(g, false, 5, l)
	text := strings.Repeat("x", 1400)
	for b.Loop() {
		n, c, _ := one.Seal(5, text)
		two.Open(5, n, c)
	}
}
