package rules_test

import (
	"fmt"
	"slices"
	"strings"
	"testing"

	"isthmus/api"
	"isthmus/policy"
	"isthmus/rules"
)

// mayNot are policies that may not be, each of which would let all speak to all if it
// might.
func mayNot(t testing.TB) []api.Policy {
	all := said(t, "accept any from * to *")
	bad := func(change func(p *api.Policy)) api.Policy {
		p := policy.Copy(all)
		change(&p)
		return p
	}
	acl := func(change func(a *api.Acl)) api.Policy {
		return bad(func(p *api.Policy) {
			a := policy.Copy(all).Acls[0]
			change(&a)
			p.Acls = append(p.Acls, a)
		})
	}
	group := api.Named{Name: "g", List: []string{"ann"}}
	long := api.Named{List: slices.Repeat([]string{strings.Repeat("a", 32)}, 64)}
	return []api.Policy{
		bad(func(p *api.Policy) { p.Groups = []api.Named{{Name: "g"}} }),
		bad(func(p *api.Policy) { p.Groups = []api.Named{group, group} }),
		bad(func(p *api.Policy) { p.Groups = []api.Named{{Name: "G", List: group.List}} }),
		bad(func(p *api.Policy) { p.Tags = []api.Named{{Name: "t", List: []string{""}}} }),
		bad(func(p *api.Policy) { p.Tags = []api.Named{group, group} }),
		bad(func(p *api.Policy) { p.Hosts = []api.HostName{{Name: "h"}, {Name: "h"}} }),
		bad(func(p *api.Policy) { p.Hosts = []api.HostName{{Name: "h", Net: api.Prefix{Bits: 33}}} }),
		bad(func(p *api.Policy) { p.Acls = slices.Repeat(p.Acls, 65) }),
		acl(func(a *api.Acl) { a.Src = nil }),
		acl(func(a *api.Acl) { a.Dst = []api.Sel{} }),
		acl(func(a *api.Acl) { a.Src = slices.Repeat(a.Src, 65) }),
		acl(func(a *api.Acl) { a.Src = []api.Sel{{}} }),
		acl(func(a *api.Acl) { a.Dst = []api.Sel{{Kind: 7}} }),
		acl(func(a *api.Acl) { a.Dst = []api.Sel{{Kind: api.SelAny, Name: "x"}} }),
		acl(func(a *api.Acl) { a.Dst = []api.Sel{{Kind: api.SelGroup, Name: "g"}} }),
		acl(func(a *api.Acl) { a.Src = []api.Sel{{Kind: api.SelTag, Name: "t"}} }),
		acl(func(a *api.Acl) { a.Src = []api.Sel{{Kind: api.SelHost, Name: "h"}} }),
		acl(func(a *api.Acl) { a.Src = []api.Sel{{Kind: api.SelNet, Net: api.Prefix{Addr: four(1)}}} }),
		acl(func(a *api.Acl) { a.Protos = []uint8{6, 1} }),
		acl(func(a *api.Acl) { a.Protos = []uint8{1, 58} }),
		acl(func(a *api.Acl) { a.Protos = []uint8{0} }),
		acl(func(a *api.Acl) { a.Ports = []api.Ports{{From: 2, To: 1}} }),
		bad(func(p *api.Policy) { // each of its parts may be, but its text is too long
			for i := range 5 {
				long.Name = fmt.Sprint("g", i)
				p.Groups = append(p.Groups, long)
			}
		}),
	}
}

// permits holds what is told against P20.2, and P20.5 of it: what is compiled for the
// address to which it goes lets just the same be.
func permits(t *testing.T, p api.Policy, peers []api.Peer, h api.Head, want bool) {
	t.Helper()
	if got := rules.Permits(p, peers, h); got != want {
		t.Errorf("Permits(%v): %v", h, got)
	}
	if wantPermits(p, peers, h) != want {
		t.Errorf("%v: wanted otherwise", h)
	}
	l, err := rules.Compile(p, peers, []api.Addr{h.Flow.Dst})
	if err != api.OK {
		t.Fatalf("Compile: %v", err)
	}
	if got := rules.Match(l, h); (got >= 0) != want || got != wantMatch(l, h) {
		t.Errorf("Match(%v, %v): %v", l, h, got)
	}
}

func TestPermitsExample(t *testing.T) {
	p := said(t, "tag web = ann\naccept tcp from user:ann to tag:web ports 80")
	ann, web := addr(t, "10.0.0.1"), addr(t, "10.0.0.2")
	peers := []api.Peer{{User: "ann", Addrs: []api.Addr{ann}}, {User: "bob", Tags: []string{"web"}, Addrs: []api.Addr{web}}}
	permits(t, p, peers, flow(api.TCP, ann, web, 80), true)
	permits(t, p, peers, flow(api.TCP, ann, web, 81), false)
	permits(t, p, peers, flow(api.TCP, ann, web, 79), false)
	permits(t, p, peers, flow(api.TCP, web, ann, 80), false)
	permits(t, p, peers, flow(api.TCP, ann, ann, 80), false)
	permits(t, p, peers, flow(api.TCP, web, web, 80), false)
	permits(t, p, peers, flow(api.UDP, ann, web, 80), false)
	permits(t, p, peers, flow(api.TCP, addr(t, "10.0.0.3"), web, 80), false)
	permits(t, p, peers, flow(api.TCP, six(0, ann.Lo), web, 80), false)
	permits(t, p, peers, flow(api.TCP, ann, six(0, web.Lo), 80), false)
	permits(t, p, nil, flow(api.TCP, ann, web, 80), false)
	permits(t, api.Policy{}, peers, flow(api.TCP, ann, web, 80), false)
}

// TestPermitsProtos: P20.2, each protocol, for each choice of them; 1 stands for 58.
func TestPermitsProtos(t *testing.T) {
	a, b := four(1), four(2)
	for _, c := range []struct {
		word string
		lets []uint8
	}{
		{"icmp", []uint8{1, 58}}, {"tcp", []uint8{6}}, {"udp", []uint8{17}}, {"icmp,tcp", []uint8{1, 58, 6}}, {"icmp,udp", []uint8{1, 58, 17}},
		{"tcp,udp", []uint8{6, 17}}, {"icmp,tcp,udp", []uint8{1, 58, 6, 17}}, {"any", nil},
	} {
		p := said(t, "accept "+c.word+" from * to *")
		ported := said(t, "accept "+c.word+" from * to * ports 80")
		for n := range 256 {
			proto := uint8(n)
			is := c.lets == nil || slices.Contains(c.lets, proto)
			ports := proto == 6 || proto == 17
			for _, to := range []uint16{0, 79, 80, 81, 65535} {
				permits(t, p, nil, flow(proto, a, b, to), is)
				permits(t, ported, nil, flow(proto, a, b, to), is && ports && to == 80)
			}
		}
	}
}

// TestPermitsPorts: P20.2, each port, of which one range of an accept has it; the port
// from which it comes counts for nothing, nor does what else a head tells.
func TestPermitsPorts(t *testing.T) {
	p := said(t, "accept tcp from * to * ports 443 80-82 0 81-90 65535 1000-2000")
	peers := folk(t)
	for to := range 65536 {
		n := uint16(to)
		is := n == 443 || n >= 80 && n <= 90 || n == 0 || n == 65535 || n >= 1000 && n <= 2000
		h := flow(api.TCP, four(1), four(2), n)
		if rules.Permits(p, peers, h) != is {
			t.Errorf("port %d", n)
		}
	}
	for _, from := range []uint16{0, 80, 443, 5000, 65535} {
		for _, to := range []uint16{80, 5000} {
			h := api.Head{Flow: api.Flow{Proto: api.TCP, Src: four(1), Dst: four(2), From: from, To: to}, Flags: api.SYN, Kind: 8, Code: 9, Size: -1}
			permits(t, p, peers, h, to == 80)
		}
	}
	whole := said(t, "accept any from * to * ports 0-65535")
	for _, proto := range []uint8{0, 1, 6, 17, 58, 132, 255} {
		for _, to := range []uint16{0, 1, 65535} {
			permits(t, whole, nil, flow(proto, four(1), four(2), to), proto == 6 || proto == 17)
		}
	}
}

// TestPermitsWhole: P20.2, all of a flow is let by one accept, none by parts of two.
func TestPermitsWhole(t *testing.T) {
	p := said(t, `
group g = ann bob
tag web = ann
host h = 10.0.0.4/31
accept tcp from user:ann to user:bob ports 1
accept udp from user:bob to user:ann ports 2
accept icmp from group:g tag:web to host:h net:fd00::/127
accept tcp from net:0.0.0.0/0 to net:::/0 ports 3
`)
	peers := folk(t)
	all := places(t)
	count := 0
	for _, proto := range []uint8{api.TCP, api.UDP, api.ICMP, api.ICMP6} {
		for _, src := range all {
			for _, dst := range all {
				for to := range uint16(5) {
					h := flow(proto, src, dst, to)
					want := wantPermits(p, peers, h)
					permits(t, p, peers, h, want)
					if want {
						count++
					}
				}
			}
		}
	}
	// Of TCP from ann's three addresses to bob's two; of UDP back; of both ICMP from
	// ann's and bob's five to four, whatever the port; of TCP from all of IPv4 there
	// to all of IPv6, by one port.
	if want := 6 + 6 + 2*5*4*5 + 13*13; count != want {
		t.Errorf("%d flows, want %d", count, want)
	}
}

// TestPermitsMayNot: P20.2, of addresses that may not be, and of policies.
func TestPermitsMayNot(t *testing.T) {
	p := said(t, "accept any from * to *")
	peers := folk(t)
	for _, src := range places(t) {
		for _, dst := range places(t) {
			permits(t, p, peers, flow(api.UDP, src, dst, 5), wantMayAddr(src) && wantMayAddr(dst))
		}
	}
	for i, bad := range mayNot(t) {
		if rules.Permits(bad, peers, flow(api.TCP, four(1), four(2), 80)) {
			t.Errorf("policy %d", i)
		}
	}
}
