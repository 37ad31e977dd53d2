package tunnel_test

import (
	"math"
	"math/rand"
	"testing"

	"isthmus/api"
	"isthmus/mont"
	"isthmus/noise"
	"isthmus/tunnel"
)

// letter is a text that was sealed: by whom, and how often it was opened so far.
type letter struct {
	from *pair
	n    uint64
	c, s string
	came int
}

// world are the ends of two tunnels, who opens what each of them seals, what was sealed
// so far, and what time it is.
type world struct {
	*testing.T
	r     *rand.Rand
	ends  []*pair
	to    map[*pair]*pair
	all   []*letter
	now   uint64
	began uint64
}

func newWorld(t *testing.T, seed int64) *world {
	w := &world{T: t, r: rand.New(rand.NewSource(seed)), to: map[*pair]*pair{}}
	w.began = []uint64{0, 5, 1000, 1 << 60, 1 << 63, math.MaxUint64 - 300, math.MaxUint64 - 3, w.r.Uint64()}[w.r.Intn(8)]
	l := w.limits()
	for i := range int64(2) {
		a, b := ends(t, seed*2+i, w.began, l)
		w.ends = append(w.ends, a, b)
		w.to[a], w.to[b] = b, a
	}
	w.now = w.began
	return w
}

// limits are drawn ones, most of them such as a row of calls comes to.
func (w *world) limits() api.Limits {
	upTo := func(n uint64) uint64 { return 1 + w.r.Uint64()%n }
	l := api.Limits{
		Count:  upTo([]uint64{3, 20, 100, api.MaxCount}[w.r.Intn(4)]),
		Life:   upTo([]uint64{3, 60, 500, api.MaxTicks}[w.r.Intn(4)]),
		Window: int(upTo([]uint64{3, 8, 70, api.MaxWindow}[w.r.Intn(4)])),
	}
	l.RekeyCount, l.Rekey = upTo(l.Count), upTo(l.Life)
	return l
}

// tick goes on by some ticks; back, or to an edge, now and then.
func (w *world) tick() {
	switch w.r.Intn(12) {
	case 0:
		w.now -= min(w.now, w.r.Uint64()%20)
	case 1:
		times := w.ends[0].m.times()
		w.now = times[w.r.Intn(len(times))]
	case 2, 3, 4:
		w.now = w.began
	default:
		w.now += min(math.MaxUint64-w.now, w.r.Uint64()%4)
	}
}

func (w *world) seal() {
	from := w.ends[w.r.Intn(len(w.ends))]
	s := some(w.r.Intn([]int{1, 2, 40, 300}[w.r.Intn(4)]), w.r.Int63())
	if n, c := from.seal(w.now, s); c != "" {
		w.all = append(w.all, &letter{from: from, n: n, c: c, s: s})
	}
}

// pick is any letter, one of the last ones more often.
func (w *world) pick() *letter {
	if len(w.all) == 0 {
		return nil
	}
	if w.r.Intn(2) == 0 {
		return w.all[len(w.all)-1-w.r.Intn(min(5, len(w.all)))]
	}
	return w.all[w.r.Intn(len(w.all))]
}

// deliver hands a letter to whom it is for: each comes once at most, as it was sealed.
func (w *world) deliver(x *letter) {
	if s, is := w.to[x.from].open(w.now, x.n, x.c); is {
		x.came++
		if x.came > 1 || s != x.s {
			w.Fatalf("number %d came %d times, as %.20x, was %.20x", x.n, x.came, s, x.s)
		}
	}
}

// forge hands over what nobody sealed so: a bit of it turned, under another number, to
// another end than the one that it is for, or drawn.
func (w *world) forge(x *letter) {
	to, n, c := w.to[x.from], x.n, x.c
	switch w.r.Intn(5) {
	case 0:
		c = turned(c, w.r.Intn(8*len(c)))
	case 1:
		n = []uint64{n + 1, n - 1, n + uint64(to.m.limits.Window), to.m.limits.Count - 1, to.m.limits.Count, w.r.Uint64(), 0}[w.r.Intn(7)]
		if n == x.n {
			return
		}
	case 2:
		if to = w.ends[w.r.Intn(len(w.ends))]; to == w.to[x.from] {
			return
		}
	case 3:
		c = c[:w.r.Intn(len(c))]
	case 4:
		c = some(w.r.Intn(60), w.r.Int63())
	}
	if s, is := to.open(w.now, n, c); is {
		w.Fatalf("number %d: %.20x opens", n, s)
	}
}

// step is one thing that the world does.
func (w *world) step() {
	w.tick()
	x := w.pick()
	switch k := w.r.Intn(100); {
	case k < 40 || x == nil:
		w.seal()
	case k < 75:
		w.deliver(x)
	case k < 99:
		w.forge(x)
	case w.r.Intn(4) == 0:
		w.ends[w.r.Intn(len(w.ends))].wipe()
	}
}

// TestDrawnRows: P18.1 to P18.4 and P18.6, two tunnels that live side by side, with
// texts that come again, late, out of order, turned, cut, under other numbers, and to
// other ends, at times of all kinds.
func TestDrawnRows(t *testing.T) {
	came, sealed := 0, 0
	for seed := range int64(400) {
		w := newWorld(t, seed)
		for range 150 {
			w.step()
		}
		sealed += len(w.all)
		for _, x := range w.all {
			came += x.came
		}
	}
	if sealed < 5000 || came < 2000 {
		t.Errorf("the rows are too poor: %d were sealed, %d came", sealed, came)
	}
}

// TestLongRows: the same of few tunnels, with numbers that go far beyond the window.
func TestLongRows(t *testing.T) {
	for seed := range int64(6) {
		w := newWorld(t, 1000+seed)
		l := api.Limits{RekeyCount: 100, Count: 100000, Rekey: 100, Life: api.MaxTicks, Window: []int{1, 5, 64, 65, 200, 1000}[seed]}
		a, b := ends(t, 1000+seed, 5, l)
		w.ends, w.to, w.began, w.now = []*pair{a, b}, map[*pair]*pair{a: b, b: a}, 5, 5
		for range 1500 {
			w.now = 5
			if x := w.pick(); x != nil && w.r.Intn(5) < 3 {
				w.deliver(x)
			} else {
				w.seal()
			}
		}
	}
}

// shake is a handshake of two, by seeds, and the tunnels that come of it.
func shake(t *testing.T, a, b, ephemeral int64, now uint64) (first, other *pair) {
	t.Helper()
	public, err := mont.Public(some(32, b))
	if err != api.OK {
		t.Fatal(err)
	}
	half, message, err := noise.Begin(some(32, a), public, some(32, ephemeral), "isthmus", "now")
	if err != api.OK {
		t.Fatal(err)
	}
	o, _, err := noise.Read(some(32, b), "isthmus", message)
	if err != api.OK {
		t.Fatal(err)
	}
	reply, theirs, err := o.Answer(some(32, ephemeral+1), "")
	if err != api.OK {
		t.Fatal(err)
	}
	mine, err := half.Finish(reply)
	if err != api.OK {
		t.Fatal(err)
	}
	return newPair(t, mine, true, now, wide()), newPair(t, theirs, false, now, wide())
}

// TestHandshakes: W1 and P18.6, of two who shook hands, and of others: a text opens at
// the end that it is for, once, and at no other one: not at that of a third one, of
// another handshake of the same two, or of one that they began the other way round.
func TestHandshakes(t *testing.T) {
	type tie struct{ a, b *pair }
	var ties []tie
	for _, x := range [][3]int64{{1, 2, 10}, {1, 2, 20}, {2, 1, 30}, {1, 3, 40}, {3, 2, 50}, {3, 1, 10}, {1, 1, 60}} {
		a, b := shake(t, x[0], x[1], x[2], 5)
		ties = append(ties, tie{a, b})
	}
	var all []*pair
	for _, x := range ties {
		all = append(all, x.a, x.b)
	}
	for round := range 4 {
		for i, x := range ties {
			for _, way := range []tie{{x.a, x.b}, {x.b, x.a}} {
				s := some(100, int64(i))
				n, c := way.a.seal(5, s)
				if n != uint64(round) {
					t.Fatalf("number %d", n)
				}
				for _, other := range all {
					if other == way.b {
						continue
					}
					if _, is := other.open(5, n, c); is {
						t.Fatalf("round %d, %d: opens at another end", round, i)
					}
				}
				way.b.opens(5, n, c, s)
				for _, other := range all {
					other.open(5, n, c)
				}
				way.b.opensNot(5, n, c, api.ErrThere)
			}
		}
	}
}

// TestBeginOfAHandshake: the first one speaks first; the other one answers once it
// opened that, though it had its keys earlier.
func TestBeginOfAHandshake(t *testing.T) {
	a, b := shake(t, 1, 2, 10, 5)
	b.sealsNot(5, "answer", api.ErrState)
	n, c := a.seal(5, "question")
	b.sealsNot(5, "answer", api.ErrState)
	b.opens(5, n, c, "question")
	m, d := b.seal(5, "answer")
	a.opens(5, m, d, "answer")
}

// TestTwoFirsts: what first is told for counts, not the keys.
func TestTwoFirsts(t *testing.T) {
	for choice := range 4 {
		a := newPair(t, got(1), choice&1 > 0, 5, example())
		b := newPair(t, back(got(1)), choice&2 > 0, 5, example())
		for _, p := range []*pair{a, b} {
			if p.m.first {
				p.seal(5, "text")
			} else {
				p.sealsNot(5, "text", api.ErrState)
			}
			if p.t.Wants(15) != p.m.first || p.t.Sure() != p.m.first {
				t.Errorf("choice %d: Wants, Sure", choice)
			}
		}
	}
}

// TestAgain: R6, a row of calls that is played again answers the same.
func TestAgain(t *testing.T) {
	play := func() []string {
		var out []string
		a, _ := tunnel.New(got(1), true, 5, example())
		b, _ := tunnel.New(back(got(1)), false, 5, example())
		for i := range uint64(4) {
			_, c, err := a.Seal(5+i, some(int(i), 1))
			s, fault := b.Open(5+i, i, c)
			_, d, also := b.Seal(5, s)
			out = append(out, c, err.Error(), s, fault.Error(), d, also.Error())
		}
		return out
	}
	one, two := play(), play()
	for i := range one {
		if one[i] != two[i] {
			t.Errorf("%x, %x", one[i], two[i])
		}
	}
}
