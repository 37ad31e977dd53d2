package filter_test

import (
	"testing"

	"isthmus/api"
	"isthmus/port"
)

// otherwise are flows each of which is f but for one thing.
func otherwise(f api.Flow) []api.Flow {
	var out []api.Flow
	for _, change := range []func(x *api.Flow){
		func(x *api.Flow) { x.Proto ^= 1 },
		func(x *api.Flow) { x.Proto ^= 1 << 7 },
		func(x *api.Flow) { x.Src.V6 = !x.Src.V6 },
		func(x *api.Flow) { x.Src.Hi ^= 1 << 63 },
		func(x *api.Flow) { x.Src.Hi ^= 1 },
		func(x *api.Flow) { x.Src.Lo ^= 1 << 32 },
		func(x *api.Flow) { x.Src.Lo ^= 1 },
		func(x *api.Flow) { x.Dst.V6 = !x.Dst.V6 },
		func(x *api.Flow) { x.Dst.Hi ^= 1 << 63 },
		func(x *api.Flow) { x.Dst.Hi ^= 1 },
		func(x *api.Flow) { x.Dst.Lo ^= 1 << 63 },
		func(x *api.Flow) { x.Dst.Lo ^= 1 },
		func(x *api.Flow) { x.From ^= 1 },
		func(x *api.Flow) { x.From ^= 1 << 15 },
		func(x *api.Flow) { x.To ^= 1 },
		func(x *api.Flow) { x.To ^= 1 << 15 },
		func(x *api.Flow) { x.Src, x.Dst = x.Dst, x.Src },
		func(x *api.Flow) { x.From, x.To = x.To, x.From },
		func(x *api.Flow) { *x = turned(*x) },
		func(x *api.Flow) { *x = api.Flow{} },
	} {
		x := f
		change(&x)
		out = append(out, x)
	}
	return out
}

// someFlows are of all kinds, also such whose addresses may not be.
func someFlows() []api.Flow {
	return []api.Flow{
		{Proto: api.UDP, Src: four(1), Dst: four(2), From: 5, To: 6},
		{Proto: api.TCP, Src: four(1), Dst: four(2), From: 65535, To: 0x1234},
		{Proto: api.TCP, Src: six(1), Dst: six(2), From: 0xff00, To: 0x00ff},
		{Proto: api.ICMP, Src: four(1), Dst: four(2), From: 7, To: 8},
		{Proto: 255, Src: six(1), Dst: four(2), From: 0, To: 1},
		{Proto: 0, Src: api.Addr{Hi: 9, Lo: 1 << 40}, Dst: api.Addr{Lo: 1 << 33}, From: 1, To: 0},
	}
}

// TestOnlyThat: P21.2 and P21.3, what went out lets in its answer, and no flow that is
// otherwise in one thing.
func TestOnlyThat(t *testing.T) {
	for _, f := range someFlows() {
		p := newPair(t, nil, 100, 10)
		p.out(f, 0, api.OK)
		for _, x := range otherwise(f) {
			p.in(x, 1, api.ErrDenied)
		}
		p.in(f, 1, api.OK)
		for i, x := range otherwise(f) {
			p.out(x, 2, api.OK)
			if got := len(p.f.Flows()); got != i+2 {
				t.Errorf("%v: %d flows behind %v", f, got, x)
			}
		}
		for _, x := range otherwise(f) {
			p.in(x, 3, api.OK)
		}
	}
}

// TestHeads: P21.2 and P21.3, of a head nothing counts but its flow.
func TestHeads(t *testing.T) {
	heads := func(f api.Flow) []api.Head {
		return []api.Head{
			{Flow: f},
			{Flow: f, Flags: api.SYN},
			{Flow: f, Flags: api.RST | api.FIN, Size: 1000},
			{Flow: f, Kind: 8, Code: 1, Size: -1},
			{Flow: f, Flags: 255, Kind: 255, Code: 255, Size: 1 << 40},
		}
	}
	for _, f := range someFlows() {
		for _, out := range heads(turned(f)) {
			p := newPair(t, nil, 1, 10)
			p.outOf(out, 1, api.OK)
			for i, in := range heads(f) {
				p.inOf(in, uint64(i), api.OK)
			}
			for _, again := range heads(turned(f)) {
				p.outOf(again, 9, api.OK)
			}
			isUntil(t, p.f, f, 19)
		}
	}
}

// TestTurnedAlike: a flow that is its own reverse answers itself.
func TestTurnedAlike(t *testing.T) {
	for _, f := range []api.Flow{{}, {Proto: api.ICMP6, Src: six(1), Dst: six(1), From: 4, To: 4}} {
		p := newPair(t, nil, 1, 3)
		p.out(f, 0, api.OK)
		p.in(f, 2, api.OK)
		p.out(f, 4, api.OK)
		p.in(f, 7, api.ErrDenied)
	}
}

// TestBothWays: what came in does not let out's answers in by itself: only what goes out
// makes a flow.
func TestBothWays(t *testing.T) {
	f := flow(1)
	p := newPair(t, only(f), 5, 10)
	p.in(f, 0, api.OK)
	p.in(turned(f), 1, api.ErrDenied)
	if l := p.f.Flows(); len(l) != 0 {
		t.Errorf("a rule made %v", l)
	}
	p.out(f, 2, api.OK)         // the answer to what came in
	p.out(turned(f), 3, api.OK) // another flow: by its answer f comes in from the other end
	isUntil(t, p.f, f, 12)
	isUntil(t, p.f, turned(f), 13)
}

// TestMost: P21.2, as many flows as there may be, and one more; those that are there get
// another life nevertheless, and once one goes there is room for just one.
func TestMost(t *testing.T) {
	for _, most := range []int{1, 2, 3, 17, api.MaxFlows - 1, api.MaxFlows} {
		life := uint64(2 * most)
		p := newPair(t, nil, most, life)
		for n := range most {
			p.out(flow(n), uint64(n), api.OK)
		}
		now := uint64(most)
		p.out(flow(most), now, api.ErrFull)
		p.out(turned(flow(0)), now, api.ErrFull)
		p.in(flow(most), now, api.ErrDenied)
		p.out(flow(most-1), now, api.OK)
		p.in(flow(most-1), now+1, api.OK)
		p.out(flow(most), now+1, api.ErrFull)
		p.out(flow(most), life-1, either)
		p.out(flow(most+1), life, either)
		p.out(flow(most+2), life, either)
		p.out(flow(most+3), 10*life, api.OK)
		isOrder(t, p.f, most+3)
	}
}

// TestRoom: of many flows half go at once, and as many come in their place.
func TestRoom(t *testing.T) {
	p := newPair(t, nil, api.MaxFlows, 100)
	f := p.f
	for n := range api.MaxFlows {
		f.Out(api.Head{Flow: turned(flow(n))}, uint64(n%2)*50)
	}
	want := 0
	for n := range 2 * api.MaxFlows {
		if f.Out(api.Head{Flow: turned(flow(api.MaxFlows + n))}, 100) == api.OK {
			want++
		}
	}
	// the first one went out at 0, the second one at 50; the time did not go back
	if l := f.Flows(); want != 1 || len(l) != api.MaxFlows || l[0].Flow != flow(1) || l[api.MaxFlows-1].Flow != flow(api.MaxFlows) {
		t.Errorf("%d were taken, %d are there, from %v to %v", want, len(l), l[0], l[len(l)-1])
	}
	for n := range 2 * api.MaxFlows {
		if f.Out(api.Head{Flow: turned(flow(5000 + n))}, 150) == api.OK {
			want++
		}
	}
	if l := f.Flows(); want != api.MaxFlows || len(l) != api.MaxFlows || l[0].Flow != flow(api.MaxFlows) {
		t.Errorf("%d were taken, %d are there, the first one %v", want, len(l), l[0])
	}
}

// TestFlowsApart: R5, flows that are answered are nobody else's.
func TestFlowsApart(t *testing.T) {
	p := newPair(t, nil, 5, 10)
	p.out(flow(1), 0, api.OK)
	p.out(flow(2), 1, api.OK)
	first, second := p.f.Flows(), p.f.Flows()
	for i := range first {
		first[i] = api.Live{Flow: flow(7), Until: 1 << 50}
	}
	_ = append(first[:0], first[1:]...)
	_ = append(first, api.Live{Flow: flow(8)})
	if second[0] != (api.Live{Flow: flow(1), Until: 10}) || second[1] != (api.Live{Flow: flow(2), Until: 11}) {
		t.Errorf("%v", second)
	}
	p.whole()
	p.in(flow(7), 2, api.ErrDenied)
	p.in(flow(1), 3, api.OK)
	if second[0].Until != 10 {
		t.Errorf("an answer went on: %v", second)
	}
	p.out(flow(3), 3, api.OK)
	p.in(flow(2), 11, api.ErrDenied)
	if second[1] != (api.Live{Flow: flow(2), Until: 11}) || len(second) != 2 {
		t.Errorf("an answer went on: %v", second)
	}
}

// TestApart: two filters of New have nothing in common.
func TestApart(t *testing.T) {
	l := only(flow(9))
	a, b := newPair(t, l, 2, 10), newPair(t, l, 2, 10)
	a.out(flow(1), 0, api.OK)
	b.in(flow(1), 0, api.ErrDenied)
	b.out(flow(2), 50, api.OK)
	a.in(flow(1), 1, api.OK)
	a.in(flow(2), 1, api.ErrDenied)
	a.set(nil)
	b.in(flow(9), 51, api.OK)
	b.set(only(flow(1)))
	a.in(flow(9), 2, api.ErrDenied)
	a.whole()
	b.whole()
}

// TestPackets: what real packets tell goes out, and their answers come in.
func TestPackets(t *testing.T) {
	at := func(a api.Addr, p uint16) api.Endpoint { return api.Endpoint{Addr: a, Port: p} }
	for _, a := range [][2]api.Addr{{four(1), four(2)}, {six(1), six(2)}} {
		p := newPair(t, nil, 9, 10)
		head := func(packet api.Packet, err api.Errno) api.Head {
			h, fault := port.Decode(packet)
			if err != api.OK || fault != api.OK {
				t.Fatal(err, fault)
			}
			return h
		}
		for _, x := range []struct{ out, answer, another api.Head }{
			{
				head(port.Udp(at(a[0], 5), at(a[1], 53), "who")),
				head(port.Udp(at(a[1], 53), at(a[0], 5), "he")),
				head(port.Udp(at(a[1], 54), at(a[0], 5), "he")),
			}, {
				head(port.Tcp(at(a[0], 5), at(a[1], 80), api.SYN, "")),
				head(port.Tcp(at(a[1], 80), at(a[0], 5), api.SYN|api.ACK, "")),
				head(port.Tcp(at(a[1], 80), at(a[0], 6), api.SYN|api.ACK, "")),
			}, {
				head(port.Echo(a[0], a[1], 77, false, "abc")),
				head(port.Echo(a[1], a[0], 77, true, "abc")),
				head(port.Echo(a[1], a[0], 78, true, "abc")),
			},
		} {
			p.inOf(x.answer, 0, api.ErrDenied)
			p.outOf(x.out, 0, api.OK)
			p.inOf(x.answer, 1, api.OK)
			p.inOf(x.another, 1, api.ErrDenied)
			p.inOf(x.out, 1, api.ErrDenied)
		}
	}
}
