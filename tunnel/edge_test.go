package tunnel_test

import (
	"math"
	"reflect"
	"slices"
	"testing"

	"isthmus/api"
	"isthmus/tunnel"
)

// TestNumbers: P18.3, the first and the last number that a tunnel has, and those behind,
// of all counts: as the first text that comes, and behind any other one.
func TestNumbers(t *testing.T) {
	for _, count := range []uint64{1, 2, 3, 64, 65, 1 << 32, api.MaxCount - 1, api.MaxCount} {
		l := wide()
		l.RekeyCount, l.Count = 1, count
		numbers := append(near(count), 0, 1, count/2, 2*count, count+l.RekeyCount+64, 1<<60, 1<<63, math.MaxUint64-1, math.MaxUint64)
		for _, n := range numbers {
			for _, m := range numbers {
				p := newPair(t, back(got(1)), false, 5, l)
				for _, x := range []uint64{n, m, n, m} {
					c := sealedBy(p.m.got.Recv, x, "text")
					if x >= count {
						p.opensNot(5, x, c, api.ErrOver)
						p.opensNot(5, x, "", api.ErrOver)
					} else {
						p.open(5, x, c)
					}
				}
				p.open(5, 0, sealedBy(p.m.got.Recv, 0, "text"))
			}
		}
	}
}

// TestOld: P18.3, the last number that is not old, and the first one that is, of windows
// of all kinds of sizes; what is refused may come again, and is refused again.
func TestOld(t *testing.T) {
	for _, size := range []int{1, 2, 3, 8, 63, 64, 65, 128, 4095, api.MaxWindow} {
		s := uint64(size)
		for _, top := range []uint64{s, s + 1, 2*s + 7, 1 << 40, api.MaxCount - 1} {
			l := api.Limits{RekeyCount: 1, Count: api.MaxCount, Rekey: 1, Life: 10, Window: size}
			p := newPair(t, back(got(1)), false, 5, l)
			opens := func(n uint64) { p.opens(5, n, sealedBy(p.m.got.Recv, n, "text"), "text") }
			refuses := func(n uint64, want api.Errno) {
				p.opensNot(5, n, sealedBy(p.m.got.Recv, n, "text"), want)
				p.opensNot(5, n, "", want)
				p.opensNot(5, n, zeros(1<<17), want)
			}
			opens(top)
			for range 2 {
				refuses(top-s, api.ErrOld)
				refuses(0, api.ErrOld)
				refuses(top, api.ErrThere)
			}
			if size > 1 {
				opens(top - s + 1)
			}
			if size > 2 { // else that is the same number
				opens(top - s/2)
			}
			refuses(top-s+1, api.ErrThere)
			refuses(top-s/2, api.ErrThere)
			if top+1 < api.MaxCount {
				opens(top + 1)
				refuses(top-s+1, api.ErrOld) // it was opened, and is old now
			}
		}
	}
}

// TestForgedNumber: a number that is far ahead, of a text that does not open, makes none
// old; neither does one that comes when the tunnel is over.
func TestForgedNumber(t *testing.T) {
	a, b := ends(t, 1, 5, wide())
	var sealed []string
	for range 100 {
		_, c := a.seal(5, "text")
		sealed = append(sealed, c)
	}
	for i, c := range sealed {
		for _, n := range []uint64{uint64(i) + 1, uint64(i) + 64, uint64(i) + 65, 1<<30 - 1} {
			b.opensNot(5, n, c, api.ErrOpen)
			b.opensNot(5, n, zeros(1<<17), api.ErrLong)
			b.opensNot(5+1<<30, n, sealedBy(a.m.got.Send, n, "text"), api.ErrOver)
		}
		b.opens(5, uint64(i), c, "text")
	}
}

// TestTimes: P18.2 to P18.4, all calls at all times that count, of tunnels that are made
// at times of all kinds, and live for times of all kinds.
func TestTimes(t *testing.T) {
	lives := [][2]uint64{{1, 1}, {1, 2}, {2, 2}, {10, 20}, {19, 20}, {20, 20}, {1, 1 << 60}, {1 << 59, 1 << 60}, {1 << 60, 1 << 60}}
	for _, life := range lives {
		l := wide()
		l.Rekey, l.Life = life[0], life[1]
		for _, made := range []uint64{
			0, 1, 5, 1 << 60, 1<<63 - 1, 1 << 63, math.MaxUint64 - l.Life - 1, math.MaxUint64 - l.Life, math.MaxUint64 - l.Life + 1,
			math.MaxUint64 - l.Rekey, math.MaxUint64 - 1, math.MaxUint64,
		} {
			a, b := sureEnds(t, 1, made, l)
			times := append(a.m.times(), made/2, made-made/3, made+l.Life/2, made+l.Rekey/2)
			for _, now := range times {
				over := now >= made && now-made >= l.Life
				if a.t.Over(now) != over || b.t.Over(now) != over {
					t.Errorf("made at %d, life %d: Over(%d)", made, l.Life, now)
				}
				if over {
					a.sealsNot(now, "", api.ErrOver)
					b.sealsNot(now, "", api.ErrOver)
					continue
				}
				n, c := a.seal(now, "text")
				for _, late := range times {
					if a.m.over(late) {
						b.opensNot(late, n, c, api.ErrOver)
					}
				}
				b.opens(now, n, c, "text")
			}
		}
	}
}

// TestTimeGoesBack: what is over at one time is not so at an earlier one: nothing is kept
// of the times that were asked for.
func TestTimeGoesBack(t *testing.T) {
	a, b := sureEnds(t, 1, 100, wide())
	end := 100 + wide().Life
	for range 3 {
		a.sealsNot(end, "", api.ErrOver)
		a.sealsNot(math.MaxUint64, "", api.ErrOver)
		for _, now := range []uint64{0, 50, 99, 100, end - 1} {
			n, c := a.seal(now, "text")
			b.opensNot(end, n, c, api.ErrOver)
			b.opens(now, n, c, "text")
		}
		if !a.t.Over(end) || a.t.Over(end-1) || a.t.Over(0) || !a.t.Wants(end-1) || a.t.Wants(0) {
			t.Error("Over, Wants")
		}
	}
}

// TestSealFaults: P18.2 and R2, of all that may be wrong at once, which error is told.
func TestSealFaults(t *testing.T) {
	for choice := range 32 {
		over, wiped, spent, unsure, long := choice&1 > 0, choice&2 > 0, choice&4 > 0, choice&8 > 0, choice&16 > 0
		if spent && unsure {
			continue // what is not sure seals nothing
		}
		a, b := ends(t, int64(choice), 5, example())
		n, c := a.seal(5, "")
		p := b
		if !unsure {
			b.opens(5, n, c, "")
		}
		if spent {
			for range 3 {
				p.seal(5, "")
			}
		}
		if wiped {
			p.wipe()
		}
		now, s := uint64(24), zeros(1<<16)
		if over {
			now = 25
		}
		if long {
			s += "\x00"
		}
		want := firstOf(ifSo(over || wiped || spent, api.ErrOver), ifSo(unsure, api.ErrState), ifSo(long, api.ErrLong))
		if want == api.OK {
			p.seal(now, s)
		} else {
			p.sealsNot(now, s, want)
		}
	}
}

// TestOpenFaults: P18.3 and R2, the same of Open: a number that is behind all, old, there
// already (old ones too), or new, with a text that is too long, does not open, or does.
func TestOpenFaults(t *testing.T) {
	l := api.Limits{RekeyCount: 1, Count: 50, Rekey: 10, Life: 20, Window: 8}
	key := got(1).Send
	numbers := []struct {
		n    uint64
		want api.Errno
	}{
		{50, api.ErrOver}, {51, api.ErrOver}, {math.MaxUint64, api.ErrOver}, {0, api.ErrOld}, {1, api.ErrOld}, {32, api.ErrOld},
		{40, api.ErrThere}, {33, api.ErrThere}, {34, api.OK}, {39, api.OK}, {41, api.OK}, {49, api.OK},
	}
	for _, x := range numbers {
		texts := []struct {
			c    string
			want api.Errno
		}{
			{zeros(1<<16 + 17), api.ErrLong}, {zeros(1<<16 + 16), api.ErrOpen}, {"", api.ErrOpen}, {zeros(16), api.ErrOpen},
			{sealedBy(key, x.n+1, "text"), api.ErrOpen}, {sealedBy(key, x.n, "text"), api.OK},
		}
		for _, y := range texts {
			for choice := range 4 {
				p := newPair(t, back(got(1)), false, 5, l)
				for _, n := range []uint64{1, 32, 33, 40} {
					p.opens(5, n, sealedBy(key, n, ""), "")
				}
				now, over := uint64(24), choice > 0
				if choice&1 > 0 {
					now = 25
				}
				if choice&2 > 0 {
					p.wipe()
				}
				want := firstOf(ifSo(over, api.ErrOver), x.want, y.want)
				if want == api.OK {
					p.opens(now, x.n, y.c, "text")
				} else {
					p.opensNot(now, x.n, y.c, want)
				}
			}
		}
	}
}

// TestWipe: P18.4 and P18.6, ends of all kinds, wiped: they are over at each time, seal,
// open and want nothing, and still tell what was sealed, and whether they were sure.
func TestWipe(t *testing.T) {
	for seals := range 4 {
		for opens := range 3 {
			for _, first := range []bool{true, false} {
				g := got(int64(seals))
				p := newPair(t, g, first, 5, example())
				for i := range uint64(opens) {
					p.opens(5, i, sealedBy(g.Recv, i, "text"), "text")
				}
				for range seals {
					p.seal(5, "text")
				}
				sent, sure := p.t.Sent(), p.t.Sure()
				for range 2 {
					p.wipe()
					if p.t.Sent() != sent || p.t.Sure() != sure {
						t.Errorf("Sent, Sure: %d, %v, want %d, %v", p.t.Sent(), p.t.Sure(), sent, sure)
					}
					for _, now := range p.m.times() {
						if !p.t.Over(now) || p.t.Wants(now) {
							t.Errorf("Over(%d), Wants(%d)", now, now)
						}
						p.sealsNot(now, "text", api.ErrOver)
						p.sealsNot(now, zeros(1<<16+1), api.ErrOver)
						for n := range uint64(4) {
							p.opensNot(now, n, sealedBy(g.Recv, n, "text"), api.ErrOver)
							p.opensNot(now, n, sealedBy(zeros(32), n, "text"), api.ErrOver)
						}
						p.opensNot(now, 0, "", api.ErrOver)
					}
				}
			}
		}
	}
}

// TestWipeOne: to wipe an end leaves the other one, and another tunnel of these keys.
func TestWipeOne(t *testing.T) {
	a, b := sureEnds(t, 1, 5, wide())
	again := newPair(t, a.m.got, true, 5, wide())
	n, c := a.seal(5, "text")
	a.wipe()
	b.opens(5, n, c, "text")
	b.seal(5, "text")
	again.seal(5, "text")
}

// TestNoTunnel: R3, what a tunnel answers that is not there, or that New did not make.
func TestNoTunnel(t *testing.T) {
	for _, x := range []*tunnel.Tunnel{nil, {}, new(tunnel.Tunnel)} {
		for range 2 {
			for _, now := range []uint64{0, 1, 5, 1 << 60, math.MaxUint64} {
				for _, s := range []string{"", "text", zeros(16), zeros(1<<16 + 17)} {
					if n, c, err := x.Seal(now, s); n != 0 || c != "" || err != api.ErrNil {
						t.Errorf("Seal: %d, %x, %v", n, c, err)
					}
					for _, n := range []uint64{0, 1, math.MaxUint64} {
						if text, err := x.Open(now, n, s); text != "" || err != api.ErrNil {
							t.Errorf("Open: %x, %v", text, err)
						}
					}
				}
				if !x.Over(now) || x.Wants(now) {
					t.Errorf("Over, Wants: %v, %v", x.Over(now), x.Wants(now))
				}
			}
			if x.Sure() || x.Sent() != 0 {
				t.Errorf("Sure, Sent: %v, %d", x.Sure(), x.Sent())
			}
			x.Wipe()
		}
	}
}

// TestCalls: nobody marks a number but by opening its text: a tunnel and slots have the
// chapter's calls, and no other ones, and nothing in them is to be seen.
func TestCalls(t *testing.T) {
	for _, c := range []struct {
		of    reflect.Type
		calls []string
	}{
		{reflect.TypeFor[*tunnel.Tunnel](), []string{"Open", "Over", "Seal", "Sent", "Sure", "Wants", "Wipe"}},
		{reflect.TypeFor[*tunnel.Slots](), []string{"Best", "Get", "IDs", "Put", "Tidy"}},
	} {
		var calls []string
		for i := range c.of.NumMethod() {
			calls = append(calls, c.of.Method(i).Name)
		}
		if !slices.Equal(calls, c.calls) {
			t.Errorf("%v: %v", c.of, calls)
		}
		for i := range c.of.Elem().NumField() {
			if f := c.of.Elem().Field(i); f.IsExported() {
				t.Errorf("%v: %v", c.of, f.Name)
			}
		}
	}
}
