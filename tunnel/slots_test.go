package tunnel_test

import (
	"math"
	"math/rand"
	"slices"
	"testing"

	"isthmus/api"
	"isthmus/tunnel"
)

// row is what stands in one slot.
type row struct {
	id uint32
	p  *pair
}

// slots are slots and what P18.5 says of them, once more: all rows that are there.
type slots struct {
	*testing.T
	s    *tunnel.Slots
	rows []row
}

func newSlots(t *testing.T) *slots {
	t.Helper()
	x := &slots{T: t, s: tunnel.NewSlots()}
	if x.s == nil {
		t.Fatal("NewSlots: nil")
	}
	x.asks()
	return x
}

func (x *slots) ids() []uint32 {
	var out []uint32
	for _, r := range x.rows {
		out = append(out, r.id)
	}
	return out
}

// put puts one in, or nothing, and is the error.
func (x *slots) put(id uint32, p *pair) api.Errno {
	x.Helper()
	var in *tunnel.Tunnel
	if p != nil {
		in = p.t
	}
	want := firstOf(ifSo(p == nil, api.ErrArg), ifSo(slices.Contains(x.ids(), id), api.ErrThere))
	if want == api.OK {
		x.rows = append(x.rows, row{id, p})
	}
	if len(x.rows) == 4 {
		x.rows[0].p.m.wiped = true
		x.rows = slices.Clone(x.rows[1:])
	}
	if err := x.s.Put(id, in); err != want {
		x.Fatalf("Put(%d): %v, want %v", id, err, want)
	}
	x.asks()
	return want
}

// best is the row that Best is to tell, if there is one.
func (x *slots) best(now uint64) (row, bool) {
	out, is := row{}, false
	for _, r := range x.rows {
		if r.p.m.sure() && !r.p.m.over(now) && !r.p.m.spent() {
			out, is = r, true
		}
	}
	return out, is
}

func (x *slots) tidy(now uint64) []uint32 {
	x.Helper()
	var went []uint32
	var stay []row
	for _, r := range x.rows {
		if r.p.m.over(now) {
			went = append(went, r.id)
		} else {
			stay = append(stay, r)
		}
	}
	for _, r := range x.rows {
		r.p.m.wiped = r.p.m.wiped || slices.Contains(went, r.id)
	}
	got := x.s.Tidy(now)
	if !slices.Equal(got, went) {
		x.Fatalf("Tidy(%d) of %v: %v, want %v", now, x.ids(), got, went)
	}
	x.rows = stay
	spoil(got)
	x.asks()
	return went
}

// spoil writes over an answer, which nobody else may have.
func spoil(ids []uint32) {
	for i := range ids {
		ids[i] = 77
	}
	_ = append(ids, 78)
}

// asks asks for all that is there, at all times that count.
func (x *slots) asks() {
	x.Helper()
	for range 2 {
		got := x.s.IDs()
		if !slices.Equal(got, x.ids()) {
			x.Fatalf("IDs: %v, want %v", got, x.ids())
		}
		spoil(got)
	}
	for _, id := range append(x.ids(), 0, 1, 2, 3, 77, 78, 1<<31, math.MaxUint32) {
		x.asksFor(id)
	}
	times := []uint64{0, 20, 100, math.MaxUint64}
	for _, r := range x.rows {
		r.p.asks()
		times = append(times, near(r.p.m.made+r.p.m.limits.Life)...)
	}
	for _, now := range times {
		x.asksBest(now)
	}
}

func (x *slots) asksFor(id uint32) {
	x.Helper()
	var want *tunnel.Tunnel
	for _, r := range x.rows {
		if r.id == id {
			want = r.p.t
		}
	}
	if got, err := x.s.Get(id); got != want || err != ifSo(want == nil, api.ErrNone) {
		x.Fatalf("Get(%d) of %v: %p, %v, want %p", id, x.ids(), got, err, want)
	}
}

func (x *slots) asksBest(now uint64) {
	x.Helper()
	want, is := x.best(now)
	id, got, err := x.s.Best(now)
	if is && (id != want.id || got != want.p.t || err != api.OK) {
		x.Fatalf("Best(%d) of %v: %d, %p, %v, want %d", now, x.ids(), id, got, err, want.id)
	}
	if !is && (id != 0 || got != nil || err != api.ErrNone) {
		x.Fatalf("Best(%d) of %v: %d, %p, %v, want none", now, x.ids(), id, got, err)
	}
}

// kinds are tunnels of all kinds, at the time 20: such as seal, the first one's and the
// other one's; one that is not sure, one that is spent, two that are over, by their age
// and since they were wiped, and one that outlives the others.
func kinds() []func(t *testing.T) *pair {
	at := func(made uint64) func(t *testing.T) *pair {
		return func(t *testing.T) *pair { return newPair(t, got(1), true, made, example()) }
	}
	return []func(t *testing.T) *pair{
		at(15), at(0), at(39),
		func(t *testing.T) *pair { _, b := sureEnds(t, 1, 15, example()); return b },
		func(t *testing.T) *pair { _, b := ends(t, 1, 15, example()); return b },
		func(t *testing.T) *pair {
			p := at(15)(t)
			for range 3 {
				p.seal(15, "")
			}
			return p
		},
		func(t *testing.T) *pair {
			p := at(15)(t)
			p.wipe()
			return p
		},
	}
}

// TestSlotsExample: more than there is room for, of which the newest is not sure.
func TestSlotsExample(t *testing.T) {
	x := newSlots(t)
	var all []*pair
	for i := range uint32(4) {
		a, b := ends(t, int64(i), 5, example())
		if i == 3 {
			a = b
		}
		all = append(all, a)
		x.put(i, a)
	}
	if !slices.Equal(x.s.IDs(), []uint32{1, 2, 3}) || !all[0].t.Over(5) || all[1].t.Over(5) {
		t.Errorf("%v", x.s.IDs())
	}
	if id, best, err := x.s.Best(5); id != 2 || best != all[2].t || err != api.OK {
		t.Errorf("Best: %d, %v", id, err)
	}
	if x.put(2, all[0]) != api.ErrThere || x.put(9, nil) != api.ErrArg || x.put(2, nil) != api.ErrArg {
		t.Error("Put")
	}
	if went := x.tidy(25); !slices.Equal(went, []uint32{1, 2, 3}) || len(x.s.IDs()) != 0 {
		t.Errorf("Tidy: %v", went)
	}
}

// TestSlotsRows: P18.5, tunnels of all kinds, in each order, up to one more than there is
// room for; tidied ahead of the others' end, at it, and at their own.
func TestSlotsRows(t *testing.T) {
	all := kinds()
	for count := range 5 {
		rows := 1
		for range count {
			rows *= len(all)
		}
		for choice := range rows {
			x := newSlots(t)
			var in []*pair
			for i := range count {
				p := all[choice%len(all)](t)
				choice /= len(all)
				in = append(in, p)
				if x.put(uint32(7*i), p) != api.OK {
					t.Fatal("Put")
				}
			}
			for _, now := range []uint64{19, 20, 34, 35, 58, 59} {
				x.tidy(now)
				x.tidy(now)
			}
			if len(x.rows) > 0 {
				t.Fatalf("%v are left", x.ids())
			}
			for _, p := range in {
				p.sealsNot(20, "", api.ErrOver) // whoever went is wiped
			}
		}
	}
}

// TestTidyWipes: what goes is wiped, and over at each time from then on, what stays is
// not; what is over and was not tidied is there.
func TestTidyWipes(t *testing.T) {
	x := newSlots(t)
	early, late := newPair(t, got(1), true, 5, example()), newPair(t, got(2), true, 10, example())
	x.put(1, early)
	x.put(2, late)
	if p, err := x.s.Get(1); p != early.t || err != api.OK || !p.Over(25) || p.Over(24) {
		t.Error("Get")
	}
	x.tidy(24)
	if went := x.tidy(25); !slices.Equal(went, []uint32{1}) || !early.t.Over(0) || late.t.Over(0) {
		t.Errorf("Tidy: %v", went)
	}
	n, c := late.seal(25, "text")
	newPair(t, back(got(2)), false, 10, example()).opens(25, n, c, "text")
}

// TestOldestGoes: each one that is put behind the third is in the place of the oldest,
// which is wiped, whatever its id and the others' kinds are; ids that went may come.
func TestOldestGoes(t *testing.T) {
	x := newSlots(t)
	var in []*pair
	ids := []uint32{math.MaxUint32, 0, 5, 1, math.MaxUint32, 0, 5, 1 << 31, 1}
	for i, id := range ids {
		p := newPair(t, got(int64(i)), true, 5, example())
		in = append(in, p)
		if err := x.put(id, p); err != api.OK {
			t.Fatalf("Put(%d): %v", id, err)
		}
		for j, q := range in {
			if q.t.Over(5) != (j+3 <= i) {
				t.Errorf("behind %d: Over of %d: %v", i, j, q.t.Over(5))
			}
		}
	}
	if !slices.Equal(x.s.IDs(), []uint32{5, 1 << 31, 1}) {
		t.Errorf("%v", x.s.IDs())
	}
}

// TestThere: what is refused wipes nothing, and takes nobody's place, also if all slots
// are taken; of two errors ErrArg is told.
func TestThere(t *testing.T) {
	for count := 1; count <= 3; count++ {
		x := newSlots(t)
		for i := range count {
			x.put(uint32(i), newPair(t, got(int64(i)), true, 5, example()))
		}
		other := newPair(t, got(9), true, 5, example())
		for i := range uint32(count) {
			if x.put(i, other) != api.ErrThere || x.put(i, nil) != api.ErrArg || x.put(9, nil) != api.ErrArg {
				t.Error("Put")
			}
			if err := x.s.Put(i, new(tunnel.Tunnel)); err != api.ErrArg {
				t.Errorf("Put of one that New did not make: %v", err)
			}
			x.asks()
		}
		other.seal(5, "")
	}
}

// TestTwice: a tunnel may stand in two slots: if it goes from one by being wiped, it is
// over in the other one, too, and goes from there when that is tidied.
func TestTwice(t *testing.T) {
	x := newSlots(t)
	p, q := newPair(t, got(1), true, 5, example()), newPair(t, got(2), true, 5, example())
	x.put(1, p)
	x.put(2, p)
	if id, _, _ := x.s.Best(5); id != 2 {
		t.Errorf("Best: %d", id)
	}
	x.put(3, q)
	x.put(4, q)
	if !slices.Equal(x.s.IDs(), []uint32{2, 3, 4}) || !p.t.Over(5) {
		t.Errorf("%v", x.s.IDs())
	}
	if went := x.tidy(5); !slices.Equal(went, []uint32{2}) {
		t.Errorf("Tidy: %v", went)
	}
	if went := x.tidy(25); !slices.Equal(went, []uint32{3, 4}) {
		t.Errorf("Tidy: %v", went)
	}
	x.put(1, p) // also what is wiped may be put
	y := newSlots(t)
	y.put(1, q)
	for i := range uint32(4) {
		y.put(2+i, newPair(t, got(3), true, 5, example()))
	}
}

// TestBestSeals: Best is asked anew each time: what is spent, or becomes sure, or is
// wiped, counts from then on.
func TestBestSeals(t *testing.T) {
	x := newSlots(t)
	a, b := ends(t, 1, 5, example())
	c, d := ends(t, 2, 5, example())
	x.put(1, a)
	x.put(2, d)
	best := func(want uint32) {
		t.Helper()
		x.asks()
		if id, _, _ := x.s.Best(5); id != want {
			t.Errorf("Best: %d, want %d", id, want)
		}
	}
	best(1)
	n, sealed := c.seal(5, "text")
	d.opens(5, n, sealed, "text")
	best(2)
	for range 3 {
		d.seal(5, "text")
	}
	best(1)
	x.put(3, b)
	best(1)
	a.wipe()
	if _, _, err := x.s.Best(5); err != api.ErrNone {
		t.Errorf("Best: %v", err)
	}
	x.tidy(5)
}

// TestDrawnSlots: P18.5, rows of all calls, of tunnels of all kinds, some of which are
// put again, that seal, open and are wiped on the way.
func TestDrawnSlots(t *testing.T) {
	all := kinds()
	for seed := range int64(60) {
		r := rand.New(rand.NewSource(seed))
		x, now := newSlots(t), uint64(20)
		var in []*pair
		pick := func() *pair {
			if len(in) == 0 || r.Intn(3) > 0 {
				in = append(in, all[r.Intn(len(all))](t))
				return in[len(in)-1]
			}
			return in[r.Intn(len(in))]
		}
		for range 60 {
			switch r.Intn(12) {
			case 0, 1, 2, 3, 4:
				x.put(uint32(r.Intn(7)), pick())
			case 5:
				x.put(uint32(r.Intn(7)), nil)
			case 6:
				x.tidy(now)
			case 7:
				now = []uint64{0, 19, 20, 34, 35, 36, 58, 59}[r.Intn(8)]
			case 8:
				pick().wipe()
			case 9:
				p := pick()
				p.open(now, uint64(r.Intn(3)), sealedBy(p.m.got.Recv, uint64(r.Intn(3)), "text"))
			default:
				if best, is := x.best(now); is {
					best.p.seal(now, "text")
				}
			}
			x.asks()
			x.asksBest(now)
		}
	}
}

// TestSlotsApart: slots of NewSlots have nothing in common.
func TestSlotsApart(t *testing.T) {
	x, y := newSlots(t), newSlots(t)
	x.put(1, newPair(t, got(1), true, 5, example()))
	y.asks()
	y.put(1, newPair(t, got(2), true, 5, example()))
	x.tidy(25)
	y.asks()
}

// TestNoSlots: P18.5 and R3, slots that are not there, or that NewSlots did not make.
func TestNoSlots(t *testing.T) {
	p := newPair(t, got(1), true, 5, example())
	for _, s := range []*tunnel.Slots{nil, {}, new(tunnel.Slots)} {
		for range 5 {
			for _, in := range []*tunnel.Tunnel{nil, {}, p.t} {
				if err := s.Put(1, in); err != api.ErrNil {
					t.Errorf("Put: %v", err)
				}
			}
			if x, err := s.Get(1); x != nil || err != api.ErrNil {
				t.Errorf("Get: %v, %v", x, err)
			}
			for _, now := range []uint64{0, 5, 25, math.MaxUint64} {
				if id, x, err := s.Best(now); id != 0 || x != nil || err != api.ErrNil {
					t.Errorf("Best: %d, %v, %v", id, x, err)
				}
				if ids := s.Tidy(now); len(ids) != 0 {
					t.Errorf("Tidy: %v", ids)
				}
			}
			if ids := s.IDs(); len(ids) != 0 {
				t.Errorf("IDs: %v", ids)
			}
		}
	}
	p.seal(5, "")
}
