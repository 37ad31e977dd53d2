package rules_test

import (
	"strings"
	"testing"

	"isthmus/api"
	"isthmus/rules"
)

// folk are peers with all that selectors ask for: of one user two, one without an
// address, one of no name, and one whose addresses may not be, but for one.
func folk(t testing.TB) []api.Peer {
	return []api.Peer{
		{User: "ann", Addrs: []api.Addr{addr(t, "10.0.0.1"), addr(t, "fd00::1")}},
		{User: "bob", Tags: []string{"db", "web"}, Addrs: []api.Addr{addr(t, "10.0.0.2"), addr(t, "fd00::2")}},
		{User: "ann", Tags: []string{"web"}, Addrs: []api.Addr{addr(t, "10.0.0.3")}},
		{User: "cy", Tags: []string{"db"}},
		{User: "dan", Tags: []string{"ann", ""}, Addrs: []api.Addr{{Lo: last4 + 1}, {Hi: 1}, {Hi: 1, Lo: 0x0a000001}, addr(t, "10.0.0.4")}},
		{Addrs: []api.Addr{addr(t, "10.0.0.5")}},
		{Key: "ann", Disco: "ann", User: "eve", Tags: []string{"webs"}, Addrs: []api.Addr{addr(t, "10.0.0.6")}, Ends: []api.Endpoint{{Addr: addr(t, "10.0.0.7")}}},
	}
}

// names is a policy that may not be: names are told twice, and some are none.
func names(t testing.TB) api.Policy {
	return api.Policy{
		Groups: []api.Named{
			{Name: "dev", List: []string{"ann", "bob"}}, {Name: "ops", List: []string{"cy", "dan"}}, {Name: "dev", List: []string{"eve"}},
			{Name: "none"}, {Name: "none", List: []string{"ann"}}, {Name: "web", List: []string{"eve"}}, {Name: "", List: []string{""}},
		},
		Tags: []api.Named{{Name: "web", List: []string{"eve"}}, {Name: "hat", List: []string{"ann"}}},
		Hosts: []api.HostName{
			{Name: "h", Net: net(t, "10.0.0.0/30")}, {Name: "six", Net: net(t, "fd00::/127")}, {Name: "h", Net: net(t, "10.0.0.4/30")},
			{Name: "bad", Net: api.Prefix{Addr: addr(t, "10.0.0.1"), Bits: 8}}, {Name: "bad", Net: net(t, "0.0.0.0/0")},
		},
	}
}

// places are addresses of all that is told there, and others, also such that may not be.
func places(t testing.TB) []api.Addr {
	out := []api.Addr{
		{}, four(last4), {Lo: last4 + 1}, {Hi: 1}, {Hi: 1, Lo: 0x0a000001}, {Lo: last}, {Hi: last, Lo: last},
		six(0, 0), six(0, 0x0a000001), six(last, last), addr(t, "9.255.255.255"),
	}
	for n := range uint64(10) {
		out = append(out, four(0x0a000000+n), six(0xfd00<<48, n))
	}
	return out
}

// hasJust: P20.1, of all places just these ones.
func hasJust(t *testing.T, p api.Policy, peers []api.Peer, s api.Sel, want ...string) {
	t.Helper()
	there := map[api.Addr]int{}
	for _, x := range want {
		there[addr(t, x)] = 1
	}
	for _, a := range places(t) {
		got := rules.Has(p, peers, s, a)
		if got != (there[a] == 1) {
			t.Errorf("Has(%v, %v): %v", s, a, got)
		}
		if got != wantHas(p, peers, s, a) {
			t.Errorf("%v, %v: wanted otherwise", s, a)
		}
	}
}

func TestHasKinds(t *testing.T) {
	p, peers := names(t), folk(t)
	just := func(kind uint8, name string, want ...string) {
		t.Helper()
		s := api.Sel{Kind: kind, Name: name}
		hasJust(t, p, peers, s, want...)
		s.Net = net(t, "0.0.0.0/0") // which it has not
		hasJust(t, p, peers, s, want...)
	}
	just(api.SelUser, "ann", "10.0.0.1", "fd00::1", "10.0.0.3")
	just(api.SelUser, "bob", "10.0.0.2", "fd00::2")
	just(api.SelUser, "cy")
	just(api.SelUser, "dan", "10.0.0.4")
	just(api.SelUser, "", "10.0.0.5")
	just(api.SelUser, "eve", "10.0.0.6")
	just(api.SelUser, "ev")
	just(api.SelUser, "Eve")
	just(api.SelUser, "dev")
	just(api.SelUser, "web")
	just(api.SelGroup, "dev", "10.0.0.1", "fd00::1", "10.0.0.2", "fd00::2", "10.0.0.3")
	just(api.SelGroup, "ops", "10.0.0.4")
	just(api.SelGroup, "none")
	just(api.SelGroup, "ann")
	just(api.SelGroup, "hat")
	just(api.SelGroup, "h")
	just(api.SelGroup, "web", "10.0.0.6")
	just(api.SelGroup, "", "10.0.0.5")
	just(api.SelTag, "web", "10.0.0.2", "fd00::2", "10.0.0.3")
	just(api.SelTag, "db", "10.0.0.2", "fd00::2")
	just(api.SelTag, "webs", "10.0.0.6")
	just(api.SelTag, "we")
	just(api.SelTag, "hat")
	just(api.SelTag, "ann", "10.0.0.4")
	just(api.SelTag, "", "10.0.0.4")
	just(api.SelHost, "h", "10.0.0.0", "10.0.0.1", "10.0.0.2", "10.0.0.3")
	just(api.SelHost, "six", "fd00::", "fd00::1")
	just(api.SelHost, "bad")
	just(api.SelHost, "dev")
	just(api.SelHost, "")
	for _, kind := range []uint8{0, 7, 8, 255} {
		for _, name := range []string{"", "ann", "dev", "web", "h", "*"} {
			just(kind, name)
		}
	}
}

// TestHasNone: P20.1, of no peers, and of a policy that tells nothing.
func TestHasNone(t *testing.T) {
	for _, name := range []string{"", "ann", "dev", "web", "h"} {
		hasJust(t, names(t), nil, api.Sel{Kind: api.SelUser, Name: name})
		hasJust(t, names(t), []api.Peer{}, api.Sel{Kind: api.SelTag, Name: name})
		hasJust(t, names(t), []api.Peer{{User: name, Tags: []string{name}}}, api.Sel{Kind: api.SelGroup, Name: name})
		hasJust(t, api.Policy{}, folk(t), api.Sel{Kind: api.SelGroup, Name: name})
		hasJust(t, api.Policy{}, folk(t), api.Sel{Kind: api.SelHost, Name: name})
	}
	hasJust(t, api.Policy{}, folk(t), api.Sel{Kind: api.SelUser, Name: "bob"}, "10.0.0.2", "fd00::2")
	hasJust(t, api.Policy{}, folk(t), api.Sel{Kind: api.SelTag, Name: "db"}, "10.0.0.2", "fd00::2")
}

// TestHasAny: P20.1, all addresses that may be, whoever is there.
func TestHasAny(t *testing.T) {
	for _, s := range []api.Sel{{Kind: api.SelAny}, {Kind: api.SelAny, Name: "ann"}, {Kind: api.SelAny, Net: net(t, "10.0.0.0/8")}} {
		for _, peers := range [][]api.Peer{nil, folk(t)} {
			for _, a := range places(t) {
				if got := rules.Has(api.Policy{}, peers, s, a); got != wantMayAddr(a) {
					t.Errorf("Has(%v, %v): %v", s, a, got)
				}
			}
		}
	}
	for bit := range 64 {
		for _, a := range []api.Addr{{Lo: 1 << bit}, {Hi: 1 << bit}, {V6: true, Lo: 1 << bit}, {V6: true, Hi: 1 << bit}} {
			if got := rules.Has(api.Policy{}, nil, api.Sel{Kind: api.SelAny}, a); got != (a.V6 || a.Hi == 0 && bit < 32) {
				t.Errorf("%v: %v", a, got)
			}
		}
	}
}

// cut is a with its first bits alone.
func cut(a api.Addr, bits int) api.Addr {
	n := digits(a)
	n.Rsh(n, uint(max(widthOf(a)-bits, 0)))
	n.Lsh(n, uint(max(widthOf(a)-bits, 0)))
	return addrAt(plus(firstOf(a.V6), n))
}

// TestHasNets: P20.1, prefixes of each length, held against the addresses at their edges,
// and one bit away from their own; those that may not be have none.
func TestHasNets(t *testing.T) {
	for _, whole := range []api.Addr{four(0), four(last4), four(0x0a0b6463), six(0, 0), six(last, last), six(0xfd00123456789abc, 0xdef0123456789abc)} {
		for bits := range 256 {
			for _, a := range []api.Addr{cut(whole, bits), whole} {
				p := api.Prefix{Addr: a, Bits: uint8(bits)}
				var tried []api.Addr
				if r, is := rowOfNet(p); is {
					tried = edges(r)
				}
				for bit := range 64 {
					one := uint64(1) << bit
					tried = append(tried, api.Addr{V6: a.V6, Hi: a.Hi ^ one, Lo: a.Lo}, api.Addr{V6: a.V6, Hi: a.Hi, Lo: a.Lo ^ one})
				}
				tried = append(tried, a, whole, api.Addr{V6: !a.V6, Hi: a.Hi, Lo: a.Lo})
				isOfNet(t, p, tried)
			}
		}
	}
}

// edges are the addresses at the edges of a row, and next to them.
func edges(r row) []api.Addr {
	var out []api.Addr
	first, end := addrAt(r.from), addrAt(r.end)
	for _, by := range []uint64{0, 1, last} { // itself, the next one, the one ahead
		for _, a := range []api.Addr{first, end} {
			a.Lo += by
			out = append(out, a)
		}
	}
	return append(out, api.Addr{V6: end.V6, Hi: end.Hi - 1, Lo: last})
}

func isOfNet(t *testing.T, p api.Prefix, tried []api.Addr) {
	t.Helper()
	named := api.Policy{Hosts: []api.HostName{{Name: "x"}, {Name: "h", Net: p}}}
	for _, a := range tried {
		r, may := rowOfNet(p)
		want := may && wantMayAddr(a) && r.has(placeOf(a))
		if got := rules.Has(api.Policy{}, nil, api.Sel{Kind: api.SelNet, Net: p}, a); got != want {
			t.Fatalf("%v has %v: %v", p, a, got)
		}
		if got := rules.Has(named, nil, api.Sel{Kind: api.SelHost, Name: "h"}, a); got != want {
			t.Fatalf("a host at %v has %v: %v", p, a, got)
		}
	}
}

// TestHasLong: R1, names of any length, and many peers.
func TestHasLong(t *testing.T) {
	long := strings.Repeat("a", 1<<20)
	peers := make([]api.Peer, 1<<16)
	peers = append(peers, api.Peer{User: long, Tags: []string{"x", long}, Addrs: []api.Addr{four(7)}})
	p := api.Policy{Groups: []api.Named{{Name: long, List: []string{"x", long}}}}
	for _, kind := range []uint8{api.SelUser, api.SelGroup, api.SelTag} {
		if !rules.Has(p, peers, api.Sel{Kind: kind, Name: long}, four(7)) || rules.Has(p, peers, api.Sel{Kind: kind, Name: long[1:]}, four(7)) {
			t.Errorf("kind %d", kind)
		}
	}
}
