package filter_test

import (
	"math"
	"testing"

	"isthmus/api"
	"isthmus/filter"
)

func TestExamples(t *testing.T) {
	f, g, h := flow(1), flow(2), flow(3)
	p := newPair(t, nil, 1, 10)
	p.in(f, 1, api.ErrDenied)
	p.out(f, 1, api.OK)
	p.in(f, 5, api.OK)
	p.in(f, 14, api.OK)
	p.in(f, 24, api.ErrDenied)
	p.out(g, 30, api.OK)
	p.out(h, 31, api.ErrFull)
	p.out(h, 40, api.OK)
	if api.ErrDenied != 210 || api.MaxFlows != 1024 || api.MaxLife != 4294967296 || api.MaxClock != 4611686018427387904 {
		t.Error("limits")
	}
}

// TestNew: P21.1, bounds and lives that may not be, each beside all of the others, and
// such as may.
func TestNew(t *testing.T) {
	mosts := map[int]bool{
		math.MinInt: false, math.MinInt32: false, -1024: false, -2: false, -1: false, 0: false,
		1: true, 2: true, 3: true, 1023: true, 1024: true,
		1025: false, 1026: false, 2048: false, 1 << 16: false, 1<<32 + 1: false, math.MaxInt: false,
	}
	lives := map[uint64]bool{
		0: false, 1: true, 2: true, 1 << 16: true, 1<<32 - 1: true, 1 << 32: true,
		1<<32 + 1: false, 1 << 33: false, 1 << 62: false, 1 << 63: false, math.MaxUint64 - 1: false, math.MaxUint64: false,
	}
	for most, mayMost := range mosts {
		for life, mayLife := range lives {
			for _, l := range [][]api.Rule{nil, {}, {{}}, only(flow(1))} {
				if mayMost && mayLife {
					newPair(t, l, most, life)
				} else if f, err := filter.New(l, most, life); f != nil || err != api.ErrArg {
					t.Errorf("New(%v, %d, %d): %v, %v", l, most, life, f, err)
				}
			}
		}
	}
}

// TestBegins: P21.1, the time is 0 at first, and 0 is a time as all others.
func TestBegins(t *testing.T) {
	p := newPair(t, nil, 3, 5)
	p.in(flow(1), 0, api.ErrDenied)
	p.out(flow(1), 0, api.OK)
	p.in(flow(1), 0, api.OK)
	isUntil(t, p.f, flow(1), 5)
	p.in(flow(1), 4, api.OK)
	isUntil(t, p.f, flow(1), 9)
}

// isUntil: the flow is there, until then.
func isUntil(t *testing.T, f *filter.Filter, x api.Flow, want uint64) {
	t.Helper()
	for _, l := range f.Flows() {
		if l.Flow == x {
			if l.Until != want {
				t.Errorf("%v is there until %d, not %d", x, l.Until, want)
			}
			return
		}
	}
	t.Errorf("%v is not there", x)
}

// TestClock: P21.2 and P21.3, times at and beyond the bound are refused, ahead of all
// else, and leave the filter's time, its flows and what comes behind them as they were.
func TestClock(t *testing.T) {
	for _, bad := range []uint64{api.MaxClock, api.MaxClock + 1, 1 << 63, 1<<63 + 5, math.MaxUint64 - 1, math.MaxUint64} {
		for _, l := range [][]api.Rule{nil, {{Src: every(), Dst: every()}}} {
			p := newPair(t, l, 2, 10)
			p.out(flow(1), 7, api.OK)
			for range 2 {
				p.out(flow(1), bad, api.ErrArg)
				p.out(flow(2), bad, api.ErrArg)
				p.in(flow(1), bad, api.ErrArg)
				p.in(flow(2), bad, api.ErrArg)
			}
			isUntil(t, p.f, flow(1), 17)
			p.out(flow(2), 8, api.OK)
			isUntil(t, p.f, flow(2), 18)
			p.out(flow(3), bad, api.ErrArg) // and not ErrFull
			p.out(flow(3), 8, api.ErrFull)
		}
	}
}

// TestLastTimes: P21.2, the last times that may be, with lives at both edges.
func TestLastTimes(t *testing.T) {
	for _, life := range []uint64{1, 2, 1 << 16, api.MaxLife - 1, api.MaxLife} {
		for _, now := range []uint64{1 << 32, 1 << 61, api.MaxClock - 2, api.MaxClock - 1} {
			p := newPair(t, nil, 1, life)
			p.out(flow(1), now, api.OK)
			isUntil(t, p.f, flow(1), now+life)
			p.in(flow(1), now, api.OK)
			p.in(flow(2), api.MaxClock-1, api.ErrDenied)
			p.out(flow(2), api.MaxClock-1, either)
			p.in(flow(1), api.MaxClock-1, either)
			p.in(flow(2), 0, either)
		}
	}
}

// TestLife: P21.2 and P21.3, the last time at which an answer comes in, and the first
// at which it doesn't, from what went out, from what came in, and from what went out
// once more.
func TestLife(t *testing.T) {
	for _, life := range []uint64{1, 2, 3, 10, 1 << 16, api.MaxLife - 1, api.MaxLife} {
		for _, begin := range []uint64{0, 1, 99, 1 << 40} {
			p := newPair(t, nil, 5, life)
			p.out(flow(1), begin, api.OK)
			last := begin + life - 1
			p.in(flow(1), last, api.OK)
			last += life - 1
			p.out(flow(1), last, api.OK)
			last += life - 1
			p.in(flow(1), last, api.OK)
			isUntil(t, p.f, flow(1), last+life)
			p.in(flow(2), last+life-1, api.ErrDenied)
			isUntil(t, p.f, flow(1), last+life)
			p.in(flow(1), last+life, api.ErrDenied)
			p.in(flow(1), last, api.ErrDenied) // the time does not go back
			if l := p.f.Flows(); len(l) != 0 {
				t.Errorf("life %d: %v", life, l)
			}
		}
	}
}

// TestTimeBack: a now that is earlier than one before it is that one.
func TestTimeBack(t *testing.T) {
	for _, now := range []uint64{0, 1, 98, 99, 100} {
		p := newPair(t, only(flow(9)), 3, 10)
		p.in(flow(1), 100, api.ErrDenied) // what is refused lets the time go on, too
		p.out(flow(1), now, api.OK)
		isUntil(t, p.f, flow(1), 110)
		p.in(flow(9), 105, api.OK) // and so does what a rule lets in
		p.out(flow(2), now, api.OK)
		isUntil(t, p.f, flow(2), 115)
		p.in(flow(1), now, api.OK)
		isUntil(t, p.f, flow(1), 115)
		p.out(flow(3), 106, api.OK)
		p.out(flow(4), 107, api.ErrFull) // and this
		p.out(flow(2), now, api.OK)
		isUntil(t, p.f, flow(2), 117)
	}
}

// TestGo: flows go at each call, whatever its answer, and whichever flow it is about.
func TestGo(t *testing.T) {
	for _, now := range []uint64{10, 11, 12, 13, 20, 1 << 50} {
		for name, call := range map[string]func(p *pair){
			"let in by a rule": func(p *pair) { p.in(flow(9), now, api.OK) },
			"denied":           func(p *pair) { p.in(flow(8), now, api.ErrDenied) },
			"in":               func(p *pair) { p.in(flow(2), now, either) },
			"out":              func(p *pair) { p.out(flow(2), now, api.OK) },
			"out, another one": func(p *pair) { p.out(flow(8), now, either) },
		} {
			p := newPair(t, only(flow(9)), 3, 10)
			for n := range 3 {
				p.out(flow(n+1), uint64(n), api.OK)
			}
			call(p)
			for _, l := range p.f.Flows() {
				if l.Until <= now {
					t.Errorf("%s at %d: %v is still there", name, now, l)
				}
			}
		}
	}
}

// TestAgain: a flow that went comes back as a new one, behind the others.
func TestAgain(t *testing.T) {
	p := newPair(t, nil, 3, 10)
	p.out(flow(1), 0, api.OK)
	p.out(flow(2), 5, api.OK)
	p.in(flow(1), 10, api.ErrDenied)
	p.out(flow(1), 10, api.OK)
	isOrder(t, p.f, 2, 1)
	p.out(flow(2), 15, api.OK)
	isOrder(t, p.f, 1, 2)
}

// isOrder: the flows of these numbers are there, in that order.
func isOrder(t *testing.T, f *filter.Filter, want ...int) {
	t.Helper()
	l := f.Flows()
	if len(l) != len(want) {
		t.Fatalf("%v is not %v", l, want)
	}
	for i, n := range want {
		if l[i].Flow != flow(n) {
			t.Errorf("%v is not %v", l, want)
		}
	}
}

// TestOrder: P21.2 and P21.4, flows stand as they came to be; another life does not
// change that, and those that go leave the others as they stood.
func TestOrder(t *testing.T) {
	p := newPair(t, nil, 5, 100)
	for _, n := range []int{3, 1, 5, 2, 4} {
		p.out(flow(n), uint64(n), api.OK)
	}
	isOrder(t, p.f, 3, 1, 5, 2, 4)
	p.in(flow(5), 50, api.OK)
	p.out(flow(3), 60, api.OK)
	p.in(flow(4), 70, api.OK)
	isOrder(t, p.f, 3, 1, 5, 2, 4)
	p.in(flow(9), 105, api.ErrDenied)
	isOrder(t, p.f, 3, 5, 4)
	p.out(flow(9), 106, api.OK)
	isOrder(t, p.f, 3, 5, 4, 9)
	p.in(flow(8), 160, api.ErrDenied)
	isOrder(t, p.f, 4, 9)
}

// TestNoFilter: R3, none, and one that New did not make.
func TestNoFilter(t *testing.T) {
	for _, f := range []*filter.Filter{nil, {}, new(filter.Filter)} {
		for range 2 {
			for _, now := range []uint64{0, 1, api.MaxClock - 1, api.MaxClock, math.MaxUint64} {
				h := api.Head{Flow: flow(1)}
				if out, in := f.Out(h, now), f.In(h, now); out != api.ErrNil || in != api.ErrNil {
					t.Errorf("at %d: Out, In: %v, %v", now, out, in)
				}
			}
			for _, l := range [][]api.Rule{nil, only(flow(1)), {{Src: every(), Dst: every()}}} {
				if err := f.Set(l); err != api.ErrNil {
					t.Errorf("Set(%v): %v", l, err)
				}
			}
			if flows, rules := f.Flows(), f.Rules(); len(flows) != 0 || len(rules) != 0 {
				t.Errorf("Flows, Rules: %v, %v", flows, rules)
			}
		}
	}
}
