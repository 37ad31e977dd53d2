package rules_test

import (
	"slices"
	"strings"
	"testing"

	"isthmus/api"
	"isthmus/rules"
)

// isCompiled: P20.3, what is compiled.
func isCompiled(t *testing.T, p api.Policy, peers []api.Peer, self []api.Addr) []api.Rule {
	t.Helper()
	got, err := rules.Compile(p, peers, self)
	want, fault := wantCompile(p, peers, self)
	if err != fault || !sameRules(got, want) {
		t.Fatalf("Compile(%v, %v, %v): %v, %v, want %v, %v", p, peers, self, got, err, want, fault)
	}
	return got
}

// compiles is isCompiled of what is told.
func compiles(t *testing.T, p api.Policy, peers []api.Peer, self []api.Addr, want ...api.Rule) {
	t.Helper()
	if got := isCompiled(t, p, peers, self); !sameRules(got, want) {
		t.Errorf("Compile for %v: %v, want %v", self, got, want)
	}
}

func one(a api.Addr) []api.AddrSpan { return []api.AddrSpan{{Lo: a, Hi: a}} }

// every are the spans of all addresses that may be.
func every() []api.AddrSpan {
	return []api.AddrSpan{of4(0, last4), of6(six(0, 0), six(last, last))}
}

func TestCompileExample(t *testing.T) {
	p := said(t, "tag web = ann\naccept tcp from user:ann to tag:web ports 80")
	ann, web := addr(t, "10.0.0.1"), addr(t, "10.0.0.2")
	peers := []api.Peer{{User: "ann", Addrs: []api.Addr{ann}}, {User: "bob", Tags: []string{"web"}, Addrs: []api.Addr{web}}}
	rule := api.Rule{Protos: []uint8{6}, Src: one(ann), Dst: one(web), Ports: []api.Ports{{From: 80, To: 80}}}
	compiles(t, p, peers, []api.Addr{web}, rule)
	compiles(t, p, peers, []api.Addr{ann})
	compiles(t, p, peers, []api.Addr{ann, web}, rule)
	compiles(t, p, peers, nil)
	compiles(t, p, nil, []api.Addr{web})
	compiles(t, api.Policy{}, peers, []api.Addr{web})
	rule.Src = nil
	compiles(t, p, peers[1:], []api.Addr{web}, rule)
}

// TestCompileProtos: P20.3, the protocols of each choice.
func TestCompileProtos(t *testing.T) {
	for word, want := range map[string][]uint8{
		"any": nil, "icmp": {1, 58}, "tcp": {6}, "udp": {17}, "icmp,tcp": {1, 6, 58}, "icmp,udp": {1, 17, 58}, "tcp,udp": {6, 17}, "icmp,tcp,udp": {1, 6, 17, 58},
	} {
		p := said(t, "accept "+word+" from * to *")
		compiles(t, p, nil, []api.Addr{four(5)}, api.Rule{Protos: want, Src: every(), Dst: one(four(5))})
	}
}

// TestCompilePorts: P20.3, the normal form of ports, also at both ends of them.
func TestCompilePorts(t *testing.T) {
	for words, want := range map[string][]api.Ports{
		"80": {{From: 80, To: 80}}, "443 80": {{From: 80, To: 80}, {From: 443, To: 443}}, "81 80": {{From: 80, To: 81}}, "80 82": {{From: 80, To: 80}, {From: 82, To: 82}},
		"80 80 80": {{From: 80, To: 80}}, "5-7 1-2 3-4": {{From: 1, To: 7}}, "1-9 3-4 10": {{From: 1, To: 10}}, "1-9 3-12 11": {{From: 1, To: 12}},
		"0 65535": {{}, {From: 65535, To: 65535}}, "65535 0-65534": {{To: 65535}}, "0-65535": {{To: 65535}}, "0-65535 0 65535 7": {{To: 65535}},
		"65534-65535 0-1": {{To: 1}, {From: 65534, To: 65535}}, "65535 65534": {{From: 65534, To: 65535}}, "1 0": {{To: 1}},
	} {
		p := said(t, "accept tcp from * to * ports "+words)
		compiles(t, p, nil, []api.Addr{four(5)}, api.Rule{Protos: []uint8{6}, Src: every(), Dst: one(four(5)), Ports: want})
	}
}

// TestCompileSrc: P20.3, the normal form of all that the selectors have.
func TestCompileSrc(t *testing.T) {
	peers := folk(t)
	dst := []api.Addr{addr(t, "10.0.0.9")}
	for words, want := range map[string][]api.AddrSpan{
		"*":                                 every(),
		"* user:ann net:fd00::/8":           every(),
		"user:ann":                          {of4(0x0a000001, 0x0a000001), of4(0x0a000003, 0x0a000003), of6(six(0xfd00<<48, 1), six(0xfd00<<48, 1))},
		"user:bob user:ann":                 {of4(0x0a000001, 0x0a000003), of6(six(0xfd00<<48, 1), six(0xfd00<<48, 2))},
		"group:dev":                         {of4(0x0a000001, 0x0a000003), of6(six(0xfd00<<48, 1), six(0xfd00<<48, 2))},
		"tag:web":                           {of4(0x0a000002, 0x0a000003), of6(six(0xfd00<<48, 2), six(0xfd00<<48, 2))},
		"user:dan":                          {of4(0x0a000004, 0x0a000004)},
		"user:cy":                           nil,
		"user:nobody":                       nil,
		"user:nobody host:h":                {of4(0x0a000000, 0x0a000003)},
		"net:10.0.0.4/30 host:h":            {of4(0x0a000000, 0x0a000007)},
		"net:10.0.0.8/30 host:h":            {of4(0x0a000000, 0x0a000003), of4(0x0a000008, 0x0a00000b)},
		"user:dan host:h":                   {of4(0x0a000000, 0x0a000004)},
		"net:0.0.0.0/0 net:::/0":            every(),
		"net:0.0.0.0/1":                     {of4(0, last4/2)},
		"net:255.255.255.255/32":            {of4(last4, last4)},
		"net:::/1 net:8000::/1":             {of6(six(0, 0), six(last, last))},
		"net:fd00::/64":                     {of6(six(0xfd00<<48, 0), six(0xfd00<<48, last))},
		"net:fd00::/63":                     {of6(six(0xfd00<<48, 0), six(0xfd00<<48+1, last))},
		"net:fd00::/65":                     {of6(six(0xfd00<<48, 0), six(0xfd00<<48, last/2))},
		"net:fd00::1/128":                   {of6(six(0xfd00<<48, 1), six(0xfd00<<48, 1))},
		"net:fd00::1/128 user:ann":          {of4(0x0a000001, 0x0a000001), of4(0x0a000003, 0x0a000003), of6(six(0xfd00<<48, 1), six(0xfd00<<48, 1))},
		"net:255.255.255.254/31 net:::/127": {of4(last4-1, last4), of6(six(0, 0), six(0, 1))},
	} {
		p := said(t, "group dev = ann bob\ntag web = ann\nhost h = 10.0.0.0/30\naccept udp from "+words+" to *")
		compiles(t, p, peers, dst, api.Rule{Protos: []uint8{17}, Src: want, Dst: one(dst[0])})
	}
}

// TestCompileDst: P20.3, of self's addresses those that the selectors have, and no others;
// whether a peer has them counts only where a selector asks for peers.
func TestCompileDst(t *testing.T) {
	peers := folk(t)
	self := func(l ...string) []api.Addr {
		var out []api.Addr
		for _, s := range l {
			out = append(out, addr(t, s))
		}
		return out
	}
	for _, c := range []struct {
		words string
		self  []api.Addr
		want  []api.AddrSpan
	}{
		{"*", self("10.0.0.1", "fd00::1"), append(one(addr(t, "10.0.0.1")), one(addr(t, "fd00::1"))...)},
		{"*", self("fd00::1", "10.0.0.2", "10.0.0.1", "10.0.0.2"), append([]api.AddrSpan{of4(0x0a000001, 0x0a000002)}, one(addr(t, "fd00::1"))...)},
		{"*", nil, nil},
		{"user:ann", self("10.0.0.1", "10.0.0.2", "fd00::1", "fd00::2"), append(one(addr(t, "10.0.0.1")), one(addr(t, "fd00::1"))...)},
		{"user:ann", self("10.0.0.2", "fd00::2"), nil},
		{"user:ann user:bob", self("10.0.0.2", "10.0.0.1"), []api.AddrSpan{of4(0x0a000001, 0x0a000002)}},
		{"user:cy user:bob", self("10.0.0.2", "10.0.0.1"), one(addr(t, "10.0.0.2"))},
		{"tag:web", self("10.0.0.3", "10.0.0.1"), one(addr(t, "10.0.0.3"))},
		{"net:10.0.0.0/24", self("10.0.0.77", "10.0.1.77"), one(addr(t, "10.0.0.77"))},
		{"net:10.0.0.0/24", self("10.0.1.77"), nil},
		{"host:h net:fd00::/8", self("fe00::", "fd01::", "10.0.0.3", "10.0.0.4"), append(one(addr(t, "10.0.0.3")), one(addr(t, "fd01::"))...)},
		{"*", []api.Addr{{Hi: 1}, {Lo: last4 + 1}}, nil},
		{"*", []api.Addr{{Hi: 1}, four(last4), {Lo: last4 + 1}}, one(four(last4))},
		{"user:dan", peers[4].Addrs, one(addr(t, "10.0.0.4"))},
	} {
		p := said(t, "tag web = ann\nhost h = 10.0.0.0/30\naccept udp from user:eve to "+c.words)
		var want []api.Rule
		if c.want != nil {
			want = []api.Rule{{Protos: []uint8{17}, Src: one(addr(t, "10.0.0.6")), Dst: c.want}}
		}
		compiles(t, p, peers, c.self, want...)
	}
}

// TestCompileOrder: P20.3, a rule for each accept, in order, though two be the same, and
// none for those that have none of self's addresses.
func TestCompileOrder(t *testing.T) {
	p := said(t, `
accept tcp from * to user:ann ports 9
accept udp from user:nobody to user:ann user:bob
accept tcp from * to user:bob
accept tcp from * to user:ann ports 9
accept tcp from * to user:cy
accept icmp from user:bob to * ports 7
`)
	a, b := addr(t, "10.0.0.1"), addr(t, "10.0.0.2")
	nine := []api.Ports{{From: 9, To: 9}}
	first := api.Rule{Protos: []uint8{6}, Src: every(), Dst: one(a), Ports: nine}
	second := api.Rule{Protos: []uint8{17}, Dst: one(a)}
	end := api.Rule{Protos: []uint8{1, 58}, Src: append(one(b), one(addr(t, "fd00::2"))...), Dst: one(a), Ports: []api.Ports{{From: 7, To: 7}}}
	compiles(t, p, folk(t), []api.Addr{a}, first, second, first, end)
	second.Dst, end.Dst = one(b), one(b)
	compiles(t, p, folk(t), []api.Addr{b}, second, api.Rule{Protos: []uint8{6}, Src: every(), Dst: one(b)}, end)
	end.Dst = one(four(7))
	compiles(t, p, folk(t), []api.Addr{four(7)}, end)
}

// TestCompileMayNot: P20.3, policies that may not be.
func TestCompileMayNot(t *testing.T) {
	for i, p := range mayNot(t) {
		if l, err := rules.Compile(p, folk(t), []api.Addr{four(1)}); l != nil || err != api.ErrArg {
			t.Errorf("policy %d: %v, %v", i, l, err)
		}
		if l, err := rules.Compile(p, nil, nil); l != nil || err != api.ErrArg {
			t.Errorf("policy %d, without self: %v, %v", i, l, err)
		}
	}
}

// TestCompileMost: R1 and limits, as many accepts, selectors, users and ports as may be,
// and as many peers as a map has, and more.
func TestCompileMost(t *testing.T) {
	lists := strings.Repeat("accept any from * to *\n", 64)
	if l := isCompiled(t, said(t, lists), nil, []api.Addr{four(1)}); len(l) != 64 {
		t.Errorf("%d rules", len(l))
	}
	var peers []api.Peer
	for i := range 1000 {
		peers = append(peers, api.Peer{User: "b", Tags: []string{"c"}, Addrs: []api.Addr{four(uint64(2 * i)), six(1, uint64(2*i))}})
	}
	p := said(t, "group a ="+strings.Repeat(" b", 64)+"\naccept tcp from"+strings.Repeat(" group:a", 64)+" to"+strings.Repeat(" user:b", 64)+" ports"+strings.Repeat(" 1-2 7", 32))
	got, err := rules.Compile(p, peers, []api.Addr{four(2), four(3), six(1, 4)})
	if err != api.OK || len(got) != 1 || len(got[0].Src) != 2000 || !slices.Equal(got[0].Dst, []api.AddrSpan{of4(2, 2), of6(six(1, 4), six(1, 4))}) ||
		!slices.Equal(got[0].Ports, []api.Ports{{From: 1, To: 2}, {From: 7, To: 7}}) {
		t.Errorf("%v, %v", got, err)
	}
}
