package rules_test

import (
	"fmt"
	"math/rand"
	"reflect"
	"slices"
	"strings"
	"testing"

	"isthmus/api"
	"isthmus/policy"
	"isthmus/rules"
)

// drawnPolicy is a text with few names, that may be read, and what it says.
func drawnPolicy(t testing.TB, r *rand.Rand) api.Policy {
	users := []string{"ann", "bob", "cy", "dan"}
	some := func() string { return strings.Join(users[:1+r.Intn(3)], " ") }
	nets := []string{"10.0.0.0/8", "10.0.0.2/31", "10.0.0.1/32", "0.0.0.0/0", "fd00::/8", "fd00::2/127", "::/0", "255.255.255.254/31", "ff00::/8"}
	pick := func(l ...string) string { return l[r.Intn(len(l))] }
	text := "group g = " + some() + "\ngroup h = cy\ntag web = ann\ntag db = bob\nhost h = " + pick(nets...) + "\nhost i = 10.0.0.3/32\n"
	sels := func() string {
		out := ""
		for range 1 + r.Intn(3) {
			out += " " + pick("*", "user:ann", "user:bob", "user:eve", "group:g", "group:h", "tag:web", "tag:db", "host:h", "host:i", "net:"+pick(nets...))
		}
		return out
	}
	for range r.Intn(6) {
		text += "accept " + pick("any", "icmp", "tcp", "udp", "icmp,tcp", "tcp,udp", "icmp,tcp,udp") + " from" + sels() + " to" + sels()
		if r.Intn(2) == 0 {
			text += " ports"
			for range 1 + r.Intn(3) {
				text += " " + pick("80", "0", "79-81", "81-443", "65535", "0-65535", "443", "82")
			}
		}
		text += "\n"
	}
	return said(t, text)
}

// drawnPeers are some, whose addresses others may have, too, and may not be.
func drawnPeers(r *rand.Rand) []api.Peer {
	var out []api.Peer
	for range r.Intn(6) {
		x := api.Peer{User: []string{"ann", "bob", "cy", "dan", "eve", ""}[r.Intn(6)]}
		for range r.Intn(3) {
			x.Tags = append(x.Tags, []string{"web", "db", "g"}[r.Intn(3)])
		}
		for range r.Intn(4) {
			x.Addrs = append(x.Addrs, drawnAddr(r))
		}
		out = append(out, x)
	}
	return out
}

func drawnSelf(r *rand.Rand) []api.Addr {
	var out []api.Addr
	for range r.Intn(5) {
		out = append(out, drawnAddr(r))
	}
	return out
}

// TestDrawn: P20.1 to P20.5, of drawn policies, peers and flows.
func TestDrawn(t *testing.T) {
	r := rand.New(rand.NewSource(22))
	lets := 0
	for range 1500 {
		p, peers, self := drawnPolicy(t, r), drawnPeers(r), drawnSelf(r)
		l := isCompiled(t, p, peers, self)
		for range 60 {
			h := drawnHead(r)
			want := wantPermits(p, peers, h)
			if got := rules.Permits(p, peers, h); got != want {
				t.Fatalf("Permits(%v, %v, %v): %v", p, peers, h, got)
			}
			isSameLet(t, p, peers, self, l, h)
			if want {
				lets++
			}
		}
		for _, x := range p.Acls {
			for _, s := range append(slices.Clone(x.Src), x.Dst...) {
				a := drawnAddr(r)
				if rules.Has(p, peers, s, a) != wantHas(p, peers, s, a) {
					t.Fatalf("Has(%v, %v, %v, %v)", p, peers, s, a)
				}
			}
		}
	}
	if lets < 3000 {
		t.Errorf("only %d flows are let", lets)
	}
}

// isSameLet: P20.5, of a flow to each of self's addresses; of one to another address
// nothing is let.
func isSameLet(t *testing.T, p api.Policy, peers []api.Peer, self []api.Addr, l []api.Rule, h api.Head) {
	t.Helper()
	if got := rules.Match(l, h); got >= 0 && !slices.Contains(self, h.Flow.Dst) {
		t.Fatalf("Match(%v, %v): %d", l, h, got)
	}
	for _, a := range self {
		h.Flow.Dst = a
		if got := rules.Match(l, h); (got >= 0) != rules.Permits(p, peers, h) {
			t.Fatalf("%v, %v, %v: Match(%v, %v): %d", p, peers, self, l, h, got)
		}
	}
}

// TestNothing: R4, lists without elements are as nil ones.
func TestNothing(t *testing.T) {
	empty := api.Policy{Groups: []api.Named{}, Tags: []api.Named{}, Hosts: []api.HostName{}, Acls: []api.Acl{}}
	h := flow(api.TCP, four(1), four(2), 80)
	for _, p := range []api.Policy{{}, empty} {
		for _, peers := range [][]api.Peer{nil, {}, {{}}, {{Tags: []string{}, Addrs: []api.Addr{}}}} {
			for _, self := range [][]api.Addr{nil, {}, {four(2)}} {
				if l, err := rules.Compile(p, peers, self); len(l) != 0 || err != api.OK {
					t.Errorf("Compile: %v, %v", l, err)
				}
			}
			if rules.Permits(p, peers, h) || rules.Has(p, peers, api.Sel{}, four(1)) {
				t.Error("something of nothing")
			}
		}
	}
	sels := []api.Sel{{Kind: api.SelAny}}
	full := api.Policy{Acls: []api.Acl{{Protos: []uint8{}, Src: sels, Dst: sels, Ports: []api.Ports{}}}}
	l, err := rules.Compile(full, []api.Peer{}, []api.Addr{four(2)})
	if err != api.OK || !sameRules(l, []api.Rule{{Src: every(), Dst: one(four(2))}}) || rules.Match(l, h) != 0 || !rules.Permits(full, nil, h) {
		t.Errorf("%v, %v", l, err)
	}
}

// told is all that an answer, or an argument, says, as a text.
func told(x ...any) string { return fmt.Sprintf("%#v", x) }

// TestArguments: R5, no call changes what it is handed, though it be in no order, nor
// what is behind the end of a list.
func TestArguments(t *testing.T) {
	p := said(t, "group g = dan bob ann\nhost h = 10.0.0.0/8\naccept icmp,tcp from group:g host:h to * user:ann ports 9 7-8 1")
	p.Acls[0].Protos = append(make([]uint8, 0, 9), p.Acls[0].Protos...)
	peers := folk(t)
	self := []api.Addr{addr(t, "fd00::1"), four(9), {Hi: 1}, four(8), four(9)}
	l, _ := rules.Compile(p, peers, self)
	h := flow(api.TCP, four(9), four(8), 7)
	was := told(p, peers, self, l, p.Acls[0].Protos[:9])
	for range 2 {
		rules.Compile(p, peers, self)
		rules.Permits(p, peers, h)
		rules.Match(l, h)
		rules.Norm(l[0].Src)
		for kind := range uint8(8) {
			rules.Has(p, peers, api.Sel{Kind: kind, Name: "g"}, four(9))
		}
	}
	if is := told(p, peers, self, l, p.Acls[0].Protos[:9]); is != was {
		t.Errorf("%s was %s", is, was)
	}
}

// spoil overwrites all that a list has room for.
func spoil[T any](l []T, with T) {
	l = l[:cap(l)]
	for i := range l {
		l[i] = with
	}
}

// TestOwnLists: R5, each list of an answer is new memory, that no argument and no other
// list has.
func TestOwnLists(t *testing.T) {
	p := said(t, strings.Repeat("accept icmp,tcp from * user:ann to * user:ann ports 9 7-8 1\naccept tcp from user:ann to * ports 80\n", 2))
	peers := folk(t)
	self := []api.Addr{addr(t, "10.0.0.1"), addr(t, "fd00::1")}
	want, _ := wantCompile(p, peers, self)
	was := told(p, peers, self)
	for i := range 4 {
		for part := range 4 {
			l := isCompiled(t, p, peers, self)
			r := &l[i]
			bad := api.AddrSpan{Lo: four(77), Hi: four(77)}
			[]func(){
				func() { spoil(r.Protos, 77); r.Protos = nil },
				func() { spoil(r.Src, bad); r.Src = nil },
				func() { spoil(r.Dst, bad); r.Dst = nil },
				func() { spoil(r.Ports, api.Ports{From: 77, To: 77}); r.Ports = nil },
			}[part]()
			rest := slices.Clone(want)
			[]func(){
				func() { rest[i].Protos = nil }, func() { rest[i].Src = nil }, func() { rest[i].Dst = nil }, func() { rest[i].Ports = nil },
			}[part]()
			if !sameRules(l, rest) {
				t.Errorf("rule %d, part %d: %v, want %v", i, part, l, rest)
			}
			if is := told(p, peers, self); is != was {
				t.Errorf("rule %d, part %d: %s was %s", i, part, is, was)
			}
			isCompiled(t, p, peers, self)
		}
	}
}

// TestNotKept: R5 and R6, what is handed in may be changed behind the call: the answer
// stays, and the next call tells of what is handed to it.
func TestNotKept(t *testing.T) {
	p := said(t, "group g = ann\naccept icmp,tcp from group:g to user:ann ports 9")
	peers, self := folk(t), []api.Addr{addr(t, "10.0.0.1"), addr(t, "10.0.0.2")}
	want := isCompiled(t, p, peers, self)
	copied, copiedPeers := policy.Copy(p), folk(t)
	first, _ := rules.Compile(copied, copiedPeers, self)
	copied.Groups[0].List[0] = "bob"
	copied.Acls[0].Protos[0] = 17
	copied.Acls[0].Protos = copied.Acls[0].Protos[:1]
	copied.Acls[0].Ports[0] = api.Ports{From: 3, To: 4}
	copied.Acls[0].Dst[0].Name = "bob"
	copiedPeers[0].Addrs[0] = four(77)
	if !reflect.DeepEqual(first, want) {
		t.Errorf("%v became %v", want, first)
	}
	isCompiled(t, copied, copiedPeers, self)
	if l := isCompiled(t, p, folk(t), self); !reflect.DeepEqual(l, want) {
		t.Errorf("%v, want %v", l, want)
	}
}
