package filter_test

import (
	"fmt"
	"math"
	"reflect"
	"slices"
	"testing"

	"isthmus/api"
	"isthmus/filter"
	"isthmus/rules"
)

// model is a filter as the chapter writes it, once more: a plain list of flows, which is
// made anew at each Out and In.
type model struct {
	rules []api.Rule
	most  int
	life  uint64
	now   uint64
	flows []api.Live
}

// pass: the section 'Words', at each Out and In.
func (m *model) pass(now uint64) {
	if now > m.now {
		m.now = now
	}
	var stay []api.Live
	for _, l := range m.flows {
		if l.Until > m.now {
			stay = append(stay, l)
		}
	}
	m.flows = stay
}

// renew: the flow's time is the time and the life, if the flow is there.
func (m *model) renew(f api.Flow) bool {
	for i := range m.flows {
		if m.flows[i].Flow == f {
			m.flows[i].Until = m.now + m.life
			return true
		}
	}
	return false
}

func (m *model) out(h api.Head, now uint64) api.Errno {
	if now >= api.MaxClock {
		return api.ErrArg
	}
	m.pass(now)
	f := turned(h.Flow)
	switch {
	case m.renew(f):
		return api.OK
	case len(m.flows) == m.most:
		return api.ErrFull
	}
	m.flows = append(m.flows, api.Live{Flow: f, Until: m.now + m.life})
	return api.OK
}

func (m *model) in(h api.Head, now uint64) api.Errno {
	if now >= api.MaxClock {
		return api.ErrArg
	}
	m.pass(now)
	if rules.Match(m.rules, h) == -1 && !m.renew(h.Flow) {
		return api.ErrDenied
	}
	return api.OK
}

// turned is the flow the other way round.
func turned(f api.Flow) api.Flow {
	return api.Flow{Proto: f.Proto, Src: f.Dst, Dst: f.Src, From: f.To, To: f.From}
}

// pair is a filter and its model, which are told the same, and all that they were told.
type pair struct {
	*testing.T
	f    *filter.Filter
	m    *model
	told []string
}

func newPair(t *testing.T, l []api.Rule, most int, life uint64) *pair {
	t.Helper()
	p := &pair{T: t, f: made(t, l, most, life), m: &model{rules: l, most: most, life: life}}
	p.tell("New(%d rules, %d, %d)", len(l), most, life)
	p.whole()
	return p
}

func made(t *testing.T, l []api.Rule, most int, life uint64) *filter.Filter {
	t.Helper()
	f, err := filter.New(l, most, life)
	if f == nil || err != api.OK {
		t.Fatalf("New(%v, %d, %d): %v, %v", l, most, life, f, err)
	}
	return f
}

func (p *pair) tell(form string, what ...any) {
	p.told = append(p.told, fmt.Sprintf(form, what...))
}

// name is what p was, and the last things that it was told.
func (p *pair) name() string {
	return fmt.Sprintf("%s .. %v", p.told[0], p.told[max(1, len(p.told)-8):])
}

// out tells the head of f, turned: f is the flow that may come in then.
func (p *pair) out(f api.Flow, now uint64, want api.Errno) {
	p.Helper()
	p.outOf(api.Head{Flow: turned(f)}, now, want)
}

func (p *pair) in(f api.Flow, now uint64, want api.Errno) {
	p.Helper()
	p.inOf(api.Head{Flow: f}, now, want)
}

func (p *pair) outOf(h api.Head, now uint64, want api.Errno) {
	p.Helper()
	p.tell("Out(%v, %d)", h, now)
	p.is(p.f.Out(h, now), p.m.out(h, now), want)
}

func (p *pair) inOf(h api.Head, now uint64, want api.Errno) {
	p.Helper()
	p.tell("In(%v, %d)", h, now)
	p.is(p.f.In(h, now), p.m.in(h, now), want)
}

// either is for want where the model alone tells it.
const either api.Errno = -1

func (p *pair) is(got, model, want api.Errno) {
	p.Helper()
	if got != model {
		p.Fatalf("%s: got %v, want %v", p.name(), got, model)
	}
	if want != either && got != want {
		p.Errorf("%s: got %v, which is not %v", p.name(), got, want)
	}
	p.whole()
}

func (p *pair) set(l []api.Rule) {
	p.Helper()
	p.tell("Set(%v)", l)
	if err := p.f.Set(l); err != api.OK {
		p.Errorf("%s: %v", p.name(), err)
	}
	p.m.rules = l
	p.whole()
}

// whole holds all that the filter tells of itself against the model.
func (p *pair) whole() {
	p.Helper()
	if got := p.f.Flows(); !slices.Equal(got, p.m.flows) {
		p.Fatalf("%s: Flows: got %v, want %v", p.name(), got, p.m.flows)
	}
	if got := p.f.Rules(); !sameRules(got, p.m.rules) {
		p.Fatalf("%s: Rules: got %v, want %v", p.name(), got, p.m.rules)
	}
}

// sameRules holds rules against each other; lists that are nil and such without elements
// are the same (R4).
func sameRules(a, b []api.Rule) bool {
	return slices.EqualFunc(a, b, func(a, b api.Rule) bool {
		return slices.Equal(a.Protos, b.Protos) && slices.Equal(a.Src, b.Src) &&
			slices.Equal(a.Dst, b.Dst) && slices.Equal(a.Ports, b.Ports)
	})
}

// flow is one of many, no two of which are the same, nor the same when turned.
func flow(n int) api.Flow {
	return api.Flow{Proto: api.UDP, Src: four(1), Dst: four(2), From: uint16(n), To: uint16(n) ^ 0x8000}
}

func four(n uint64) api.Addr { return api.Addr{Lo: 10<<24 + n} }

func six(n uint64) api.Addr { return api.Addr{V6: true, Hi: 0xfd << 56, Lo: n} }

func one(a api.Addr) []api.AddrSpan { return []api.AddrSpan{{Lo: a, Hi: a}} }

// every are all addresses of both versions.
func every() []api.AddrSpan {
	return []api.AddrSpan{
		{Hi: api.Addr{Lo: math.MaxUint32}},
		{Lo: api.Addr{V6: true}, Hi: api.Addr{V6: true, Hi: math.MaxUint64, Lo: math.MaxUint64}},
	}
}

// only is the rule that lets just that flow in, from any port.
func only(f api.Flow) []api.Rule {
	return []api.Rule{{
		Protos: []uint8{f.Proto}, Src: one(f.Src), Dst: one(f.Dst), Ports: []api.Ports{{From: f.To, To: f.To}},
	}}
}

// TestModel: what the model stands on.
func TestModel(t *testing.T) {
	f := api.Flow{Proto: 6, Src: four(1), Dst: six(2), From: 3, To: 4}
	if want := (api.Flow{Proto: 6, Src: six(2), Dst: four(1), From: 4, To: 3}); turned(f) != want {
		t.Errorf("turned: %v", turned(f))
	}
	seen := map[api.Flow]bool{}
	for n := range 2 * api.MaxFlows {
		f := flow(n)
		if seen[f] || seen[turned(f)] {
			t.Errorf("flow(%d) came ahead of it", n)
		}
		seen[f] = true
	}
	if !sameRules(nil, []api.Rule{}) || !sameRules([]api.Rule{{}}, []api.Rule{{Src: []api.AddrSpan{}}}) ||
		sameRules(nil, []api.Rule{{}}) || sameRules(only(flow(1)), only(flow(2))) {
		t.Error("sameRules")
	}
	if reflect.TypeOf(api.Rule{}).NumField() != 4 {
		t.Error("a rule has other fields than those that are compared here")
	}
}
