package rules_test

import (
	"math/rand"
	"slices"
	"testing"

	"isthmus/api"
	"isthmus/rules"
)

// matches: P20.4, of what is told.
func matches(t *testing.T, l []api.Rule, h api.Head, want int) {
	t.Helper()
	if got := rules.Match(l, h); got != want {
		t.Errorf("Match(%v, %v): %d, want %d", l, h, got, want)
	}
	if wantMatch(l, h) != want {
		t.Errorf("%v, %v: wanted otherwise", l, h)
	}
}

// TestMatchFirst: P20.4, the first one that does, or none.
func TestMatchFirst(t *testing.T) {
	h := flow(api.TCP, four(1), four(2), 80)
	yes := api.Rule{Src: one(four(1)), Dst: one(four(2))}
	no := api.Rule{Src: one(four(1)), Dst: one(four(3))}
	matches(t, nil, h, -1)
	matches(t, []api.Rule{}, h, -1)
	matches(t, []api.Rule{{}}, h, -1)
	matches(t, []api.Rule{no}, h, -1)
	matches(t, []api.Rule{yes}, h, 0)
	matches(t, []api.Rule{yes, yes}, h, 0)
	matches(t, []api.Rule{no, yes}, h, 1)
	matches(t, []api.Rule{no, yes, no, yes}, h, 1)
	matches(t, append(slices.Repeat([]api.Rule{no}, 1000), yes), h, 1000)
	matches(t, slices.Repeat([]api.Rule{no}, 1000), h, -1)
}

// TestMatchParts: P20.4, a rule whose parts all but one do lets nothing be.
func TestMatchParts(t *testing.T) {
	h := flow(api.TCP, four(1), four(2), 80)
	whole := api.Rule{Protos: []uint8{17, 6}, Src: one(four(1)), Dst: one(four(2)), Ports: []api.Ports{{From: 443, To: 443}, {From: 80, To: 80}}}
	matches(t, []api.Rule{whole}, h, 0)
	for _, change := range []func(r *api.Rule){
		func(r *api.Rule) { r.Protos = []uint8{17} },
		func(r *api.Rule) { r.Protos = []uint8{0} },
		func(r *api.Rule) { r.Src = one(four(2)) },
		func(r *api.Rule) { r.Src = one(six(0, 1)) },
		func(r *api.Rule) { r.Src = nil },
		func(r *api.Rule) { r.Dst = one(four(1)) },
		func(r *api.Rule) { r.Dst = []api.AddrSpan{} },
		func(r *api.Rule) { r.Dst = one(six(0, 2)) },
		func(r *api.Rule) { r.Ports = []api.Ports{{From: 443, To: 443}} },
		func(r *api.Rule) { r.Ports = []api.Ports{{From: 81, To: 79}} },
		func(r *api.Rule) { r.Ports = []api.Ports{{From: 80, To: 79}} },
		func(r *api.Rule) { r.Ports = []api.Ports{{From: 81, To: 80}} },
	} {
		r := whole
		change(&r)
		matches(t, []api.Rule{r}, h, -1)
		matches(t, []api.Rule{r, whole}, h, 1)
	}
	for _, change := range []func(r *api.Rule){
		func(r *api.Rule) { r.Protos = nil },
		func(r *api.Rule) { r.Protos = []uint8{} },
		func(r *api.Rule) { r.Protos = []uint8{6} },
		func(r *api.Rule) { r.Ports = nil },
		func(r *api.Rule) { r.Ports = []api.Ports{} },
		func(r *api.Rule) { r.Ports = []api.Ports{{From: 9, To: 3}, {To: 65535}} },
		func(r *api.Rule) { r.Src = []api.AddrSpan{of4(9, 9), of4(0, 5)} },
		func(r *api.Rule) { r.Dst = []api.AddrSpan{of4(9, 9), of4(2, 9), of4(1, 1)} },
	} {
		r := whole
		change(&r)
		matches(t, []api.Rule{r}, h, 0)
	}
}

// TestMatchProtos: P20.4, each protocol by itself: of a rule 1 stands for no other one;
// ports count of 6 and 17 alone.
func TestMatchProtos(t *testing.T) {
	for n := range 256 {
		for m := range 256 {
			h := flow(uint8(m), four(1), four(2), 80)
			r := api.Rule{Protos: []uint8{uint8(n)}, Src: every(), Dst: every()}
			is := -1
			if n == m {
				is = 0
			}
			matches(t, []api.Rule{r}, h, is)
			if m != 6 && m != 17 {
				is = -1
			}
			r.Ports = []api.Ports{{To: 65535}}
			matches(t, []api.Rule{r}, h, is)
		}
	}
}

// TestMatchSpans: P20.4, addresses at the edges of spans, on either side; those that may
// not be are in no span, and a span that may not be has none.
func TestMatchSpans(t *testing.T) {
	ends := []api.Addr{
		four(0), four(1), four(5), four(last4 - 1), four(last4), {Lo: last4 + 1}, {Lo: last}, {Hi: 1}, {Hi: 1, Lo: 5}, {Hi: last, Lo: last},
		six(0, 0), six(0, 1), six(0, 5), six(0, last), six(1, 0), six(1, 5), six(last, last-1), six(last, last),
	}
	for _, s := range spansOf(ends...) {
		src := []api.Rule{{Src: spans(s), Dst: every()}}
		dst := []api.Rule{{Src: every(), Dst: spans(s)}}
		for _, a := range ends {
			r, may := rowOf(s)
			want := -1
			if may && wantMayAddr(a) && r.has(placeOf(a)) {
				want = 0
			}
			matches(t, src, flow(0, a, four(1), 0), want)
			matches(t, dst, flow(0, six(0, 1), a, 0), want)
		}
	}
}

// TestMatchPorts: P20.4, each port against ranges, one of which has it, or none.
func TestMatchPorts(t *testing.T) {
	l := []api.Rule{{Src: every(), Dst: every(), Ports: []api.Ports{{From: 80, To: 90}, {From: 70, To: 60}, {From: 65535, To: 65535}, {From: 85, To: 100}, {}}}}
	for to := range 65536 {
		want := -1
		if to == 0 || to >= 80 && to <= 100 || to == 65535 {
			want = 0
		}
		for _, proto := range []uint8{api.TCP, api.UDP} {
			h := flow(proto, four(1), four(2), uint16(to))
			h.Flow.From = 80
			if got := rules.Match(l, h); got != want {
				t.Errorf("port %d of %d: %d", to, proto, got)
			}
		}
	}
}

// TestMatchDrawn: P20.4, rules of any kind, also such that nobody compiles.
func TestMatchDrawn(t *testing.T) {
	r := rand.New(rand.NewSource(24))
	for range 40000 {
		l := make([]api.Rule, r.Intn(6))
		for i := range l {
			l[i] = drawnRule(r)
		}
		h := drawnHead(r)
		if got, want := rules.Match(l, h), wantMatch(l, h); got != want {
			t.Fatalf("Match(%v, %v): %d, want %d", l, h, got, want)
		}
	}
}

// drawnAddr is one of few, some of which may not be.
func drawnAddr(r *rand.Rand) api.Addr {
	n := uint64(r.Intn(4))
	switch r.Intn(12) {
	case 0, 1, 2, 3, 4, 5:
		return four(0x0a000000 + n)
	case 6, 7, 8:
		return six(0xfd00<<48, n)
	case 9:
		return four(last4 - n/2)
	case 10:
		return six(last, last-n/2)
	}
	return api.Addr{Hi: n, Lo: last4 + n/2}
}

func drawnHead(r *rand.Rand) api.Head {
	protos := []uint8{0, 1, 6, 6, 6, 17, 17, 58, 255}
	ports := []uint16{0, 1, 79, 80, 81, 443, 65535}
	return api.Head{
		Flow: api.Flow{
			Proto: protos[r.Intn(len(protos))], Src: drawnAddr(r), Dst: drawnAddr(r),
			From: ports[r.Intn(len(ports))], To: ports[r.Intn(len(ports))],
		},
		Flags: uint8(r.Intn(256)), Kind: uint8(r.Intn(256)), Code: uint8(r.Intn(256)), Size: r.Intn(1500),
	}
}

func drawnRule(r *rand.Rand) api.Rule {
	var out api.Rule
	for range r.Intn(4) {
		out.Protos = append(out.Protos, []uint8{1, 6, 17, 58}[r.Intn(4)])
	}
	for range 1 + r.Intn(4) {
		out.Src = append(out.Src, api.AddrSpan{Lo: drawnAddr(r), Hi: drawnAddr(r)})
		out.Dst = append(out.Dst, api.AddrSpan{Lo: drawnAddr(r), Hi: drawnAddr(r)})
	}
	for range r.Intn(3) {
		out.Ports = append(out.Ports, api.Ports{From: uint16(70 + r.Intn(20)), To: uint16(75 + r.Intn(20))})
	}
	return out
}
