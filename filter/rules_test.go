package filter_test

import (
	"slices"
	"testing"

	"isthmus/api"
	"isthmus/policy"
	"isthmus/rules"
)

// TestSet: P21.1, the rules are others from now on, and the flows stay, also such whose
// time would have come, had the filter been told.
func TestSet(t *testing.T) {
	f, g := flow(1), flow(2)
	p := newPair(t, only(f), 2, 10)
	p.in(f, 0, api.OK)
	p.in(g, 0, api.ErrDenied)
	p.out(flow(3), 1, api.OK)
	p.set(only(g))
	isUntil(t, p.f, flow(3), 11)
	p.in(f, 2, api.ErrDenied)
	p.in(g, 2, api.OK)
	p.set(nil)
	p.in(f, 3, api.ErrDenied)
	p.in(g, 3, api.ErrDenied)
	p.in(flow(3), 4, api.OK)
	p.set(slices.Concat(only(f), only(g)))
	p.in(f, 5, api.OK)
	p.in(g, 5, api.OK)
	p.set([]api.Rule{})
	p.in(g, 5, api.ErrDenied)
	p.in(flow(3), 13, api.OK)
	isUntil(t, p.f, flow(3), 23)
}

// TestRuleFirst: P21.3, what a rule lets in makes no flow, and gives none another life.
func TestRuleFirst(t *testing.T) {
	f := flow(1)
	p := newPair(t, nil, 2, 10)
	p.out(f, 0, api.OK)
	p.set(only(f))
	p.in(f, 5, api.OK)
	isUntil(t, p.f, f, 10)
	p.in(f, 9, api.OK)
	isUntil(t, p.f, f, 10)
	p.out(f, 9, api.OK)
	isUntil(t, p.f, f, 19)
	p.in(f, 19, api.OK)
	if l := p.f.Flows(); len(l) != 0 {
		t.Errorf("%v", l)
	}
	p.set(nil)
	p.in(f, 19, api.ErrDenied)
}

// TestRuleAtFull: a rule lets in whatever flows there are, none too.
func TestRuleAtFull(t *testing.T) {
	p := newPair(t, []api.Rule{{Src: one(four(7)), Dst: every()}, {Src: every(), Dst: one(six(7))}}, 1, 10)
	first := api.Flow{Proto: api.TCP, Src: four(7), Dst: four(1), To: 80}
	second := api.Flow{Proto: api.ICMP6, Src: six(1), Dst: six(7), From: 3, To: 3}
	for range 2 {
		p.in(first, 0, api.OK)
		p.in(second, 0, api.OK)
		p.in(turned(first), 0, api.ErrDenied)
		p.in(turned(second), 0, api.ErrDenied)
		p.out(flow(1), 0, api.OK)
	}
	p.out(first, 0, api.ErrFull) // rules are about what comes in
}

// TestRuleParts: P21.3, each part of a rule counts (rules.Match).
func TestRuleParts(t *testing.T) {
	f := flow(1)
	for _, x := range otherwise(f) {
		p := newPair(t, only(f), 1, 10)
		want := api.ErrDenied
		if x.Proto == f.Proto && x.Src == f.Src && x.Dst == f.Dst && x.To == f.To {
			want = api.OK // it is another From, which no rule asks for
		}
		p.in(x, 1, want)
		p.in(f, 1, api.OK)
	}
}

// shared are rules whose lists are one another's, with room behind them.
func shared() []api.Rule {
	spans := append(make([]api.AddrSpan, 0, 9), every()...)
	ports := append(make([]api.Ports, 0, 9), api.Ports{From: 1, To: 9}, api.Ports{From: 20, To: 10})
	protos := append(make([]uint8, 0, 9), 17, 6, 6)
	l := append(make([]api.Rule, 0, 9), api.Rule{Protos: protos, Src: spans, Dst: spans, Ports: ports})
	return append(l, l[0], api.Rule{Protos: protos[:1], Src: spans[:1], Dst: spans[1:], Ports: ports[:0]}, api.Rule{})
}

// spoil overwrites all lists of l, and what stands behind them.
func spoil(l []api.Rule) {
	for i := range l {
		for j := range l[i].Protos {
			l[i].Protos[j] = 99
		}
		for _, spans := range [][]api.AddrSpan{l[i].Src, l[i].Dst} {
			for j := range spans {
				spans[j] = api.AddrSpan{Lo: six(1), Hi: four(1)}
			}
		}
		for j := range l[i].Ports {
			l[i].Ports[j] = api.Ports{From: 5, To: 4}
		}
		_ = append(l[i].Protos, 98)
		_ = append(l[i].Src, api.AddrSpan{})
		_ = append(l[i].Dst, api.AddrSpan{})
		_ = append(l[i].Ports, api.Ports{})
		l[i] = api.Rule{}
	}
	_ = append(l, api.Rule{})
}

// TestRulesApart: R5, rules that are handed in are not kept, nor changed, and such as
// are answered are nobody else's, not one another's either.
func TestRulesApart(t *testing.T) {
	in := shared()
	p := newPair(t, in, 1, 10)
	p.m.rules = shared()
	if !sameRules(in, shared()) {
		t.Errorf("New changed its rules: %v", in)
	}
	spoil(in)
	p.whole()
	spoil(p.f.Rules())
	p.whole()
	in = shared()
	p.set(in)
	p.m.rules = shared()
	p.inOf(api.Head{Flow: flow(1)}, 1, either)
	if !sameRules(in, shared()) {
		t.Errorf("Set changed its rules: %v", in)
	}
	spoil(in)
	p.whole()
	out := p.f.Rules()
	for i := range out {
		want := slices.Clone(shared())
		spoil(out[i : i+1 : i+1])
		for j := range i + 1 {
			want[j] = api.Rule{}
		}
		if !sameRules(out, want) {
			t.Fatalf("with %d of them others: %v", i+1, out)
		}
	}
	p.whole()
}

// TestListsApart: R5, no two lists of one rule that is answered share.
func TestListsApart(t *testing.T) {
	p := newPair(t, shared(), 1, 10)
	l := p.f.Rules()
	l[0].Src[0] = api.AddrSpan{Lo: four(9), Hi: four(9)}
	l[1].Dst[1] = api.AddrSpan{}
	if l[0].Dst[0] != every()[0] || l[1].Src[1] != every()[1] || l[0].Src[1] != every()[1] || l[2].Dst[0] != every()[1] {
		t.Errorf("%v", l)
	}
	p.whole()
}

// TestAnyRules: P21.1, rules are taken as they are, also such that nobody compiles.
func TestAnyRules(t *testing.T) {
	l := []api.Rule{
		{},
		{Protos: []uint8{6, 6, 1}, Src: one(four(3)), Ports: []api.Ports{{From: 9, To: 3}}},
		{Src: []api.AddrSpan{{Lo: six(1), Hi: four(1)}, {Lo: api.Addr{Hi: 1}, Hi: api.Addr{Hi: 2}}}, Dst: every()},
		{Src: []api.AddrSpan{{Lo: four(5), Hi: four(4)}}, Dst: every()},
	}
	p := newPair(t, l, 1, 10)
	for _, f := range someFlows() {
		p.in(f, 1, api.ErrDenied)
	}
	p.set(slices.Repeat(l, 1000))
	p.in(flow(1), 2, api.ErrDenied)
	p.set(append(slices.Repeat(l, 1000), only(flow(1))...))
	p.in(flow(1), 3, api.OK)
}

// TestPolicy: a policy's rules let in what it permits.
func TestPolicy(t *testing.T) {
	pol, fault := policy.Parse("tag web = bob\naccept tcp from user:ann to tag:web ports 80\n")
	if fault != (api.Fault{}) {
		t.Fatal(fault)
	}
	peers := []api.Peer{{User: "ann", Addrs: []api.Addr{four(1)}}, {User: "bob", Tags: []string{"web"}, Addrs: []api.Addr{four(2)}}}
	l, err := rules.Compile(pol, peers, []api.Addr{four(2)})
	if err != api.OK || len(l) != 1 {
		t.Fatal(l, err)
	}
	p := newPair(t, l, 1, 10)
	for _, c := range []struct {
		f    api.Flow
		want api.Errno
	}{
		{api.Flow{Proto: api.TCP, Src: four(1), Dst: four(2), From: 9, To: 80}, api.OK},
		{api.Flow{Proto: api.TCP, Src: four(1), Dst: four(2), From: 9, To: 81}, api.ErrDenied},
		{api.Flow{Proto: api.UDP, Src: four(1), Dst: four(2), From: 9, To: 80}, api.ErrDenied},
		{api.Flow{Proto: api.TCP, Src: four(2), Dst: four(1), From: 9, To: 80}, api.ErrDenied},
		{api.Flow{Proto: api.TCP, Src: four(3), Dst: four(2), From: 9, To: 80}, api.ErrDenied},
	} {
		if rules.Permits(pol, peers, api.Head{Flow: c.f}) != (c.want == api.OK) {
			t.Errorf("the policy says otherwise of %v", c.f)
		}
		p.in(c.f, 1, c.want)
	}
}
