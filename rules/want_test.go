package rules_test

import (
	"math/big"
	"slices"
	"testing"

	"isthmus/api"
	"isthmus/ip"
	"isthmus/policy"
)

// What the chapter asks, once more: addresses as places of one line of whole numbers, on
// which those of IPv6 begin far behind those of IPv4, so that no two of unlike versions
// are next to one another; normal forms as what is covered between any two ends. Whether
// a policy may be is asked of package policy.

func power(bits int) *big.Int { return new(big.Int).Lsh(big.NewInt(1), uint(bits)) }

func plus(a, b *big.Int) *big.Int { return new(big.Int).Add(a, b) }

func widthOf(a api.Addr) int {
	if a.V6 {
		return 128
	}
	return 32
}

// firstOf is the place of the first address of a version.
func firstOf(v6 bool) *big.Int {
	if v6 {
		return power(200)
	}
	return new(big.Int)
}

// digits are the bits of an address as a number, may it be or not.
func digits(a api.Addr) *big.Int {
	n := new(big.Int).Lsh(new(big.Int).SetUint64(a.Hi), 64)
	return n.Or(n, new(big.Int).SetUint64(a.Lo))
}

func placeOf(a api.Addr) *big.Int { return plus(firstOf(a.V6), digits(a)) }

// addrAt is the address of a place.
func addrAt(n *big.Int) api.Addr {
	v6 := n.Cmp(power(199)) > 0
	rest := new(big.Int).Sub(n, firstOf(v6))
	hi := new(big.Int).Rsh(rest, 64)
	lo := new(big.Int).Sub(rest, new(big.Int).Lsh(hi, 64))
	return api.Addr{V6: v6, Hi: hi.Uint64(), Lo: lo.Uint64()}
}

func wantMayAddr(a api.Addr) bool { return digits(a).BitLen() <= widthOf(a) }

// row is what stands from one place up to ahead of another one.
type row struct{ from, end *big.Int }

// rowOf is that of a span, if it may be.
func rowOf(s api.AddrSpan) (row, bool) {
	r := row{placeOf(s.Lo), plus(placeOf(s.Hi), big.NewInt(1))}
	return r, wantMayAddr(s.Lo) && wantMayAddr(s.Hi) && s.Lo.V6 == s.Hi.V6 && r.from.Cmp(r.end) < 0
}

func (r row) has(n *big.Int) bool { return r.from.Cmp(n) <= 0 && n.Cmp(r.end) < 0 }

// rowOfNet is that of a prefix, if it may be.
func rowOfNet(p api.Prefix) (row, bool) {
	free := widthOf(p.Addr) - int(p.Bits)
	if free < 0 || !wantMayAddr(p.Addr) {
		return row{}, false
	}
	rest := new(big.Int).Mod(digits(p.Addr), power(free))
	return row{placeOf(p.Addr), plus(placeOf(p.Addr), power(free))}, rest.Sign() == 0
}

// wantNorm: P20.1. Between two ends that stand one behind the other all is covered, or
// nothing is.
func wantNorm(l []api.AddrSpan) []api.AddrSpan {
	var rows []row
	for _, s := range l {
		if r, is := rowOf(s); is {
			rows = append(rows, r)
		}
	}
	var out []api.AddrSpan
	for _, r := range joined(rows) {
		out = append(out, api.AddrSpan{Lo: addrAt(r.from), Hi: addrAt(new(big.Int).Sub(r.end, big.NewInt(1)))})
	}
	return out
}

func joined(rows []row) []row {
	var ends []*big.Int
	for _, r := range rows {
		ends = append(ends, r.from, r.end)
	}
	slices.SortFunc(ends, (*big.Int).Cmp)
	var out []row
	var open *big.Int
	for _, n := range ends {
		is := slices.ContainsFunc(rows, func(r row) bool { return r.has(n) })
		if is && open == nil {
			open = n
		} else if !is && open != nil {
			out = append(out, row{open, n})
			open = nil
		}
	}
	return out
}

// wantPorts: P20.1, of ports: port by port.
func wantPorts(l []api.Ports) []api.Ports {
	var there [65537]bool
	for _, r := range l {
		for n := int(r.From); n <= int(r.To); n++ {
			there[n] = true
		}
	}
	var out []api.Ports
	for n := range 65536 {
		if there[n] && (n == 0 || !there[n-1]) {
			out = append(out, api.Ports{From: uint16(n)})
		}
		if there[n] && !there[n+1] {
			out[len(out)-1].To = uint16(n)
		}
	}
	return out
}

// wantSpans: what a selector has, in no order.
func wantSpans(p api.Policy, peers []api.Peer, s api.Sel) []row {
	var users []string
	var nets []api.Prefix
	switch s.Kind {
	case 1:
		nets = []api.Prefix{{}, {Addr: api.Addr{V6: true}}}
	case 2:
		users = []string{s.Name}
	case 3:
		if i := slices.IndexFunc(p.Groups, func(x api.Named) bool { return x.Name == s.Name }); i >= 0 {
			users = p.Groups[i].List
		}
	case 5:
		if i := slices.IndexFunc(p.Hosts, func(x api.HostName) bool { return x.Name == s.Name }); i >= 0 {
			nets = []api.Prefix{p.Hosts[i].Net}
		}
	case 6:
		nets = []api.Prefix{s.Net}
	}
	var out []row
	for _, n := range nets {
		if r, is := rowOfNet(n); is {
			out = append(out, r)
		}
	}
	for _, x := range peers {
		if !slices.Contains(users, x.User) && !(s.Kind == 4 && slices.Contains(x.Tags, s.Name)) {
			continue
		}
		for _, a := range x.Addrs {
			if r, is := rowOf(api.AddrSpan{Lo: a, Hi: a}); is {
				out = append(out, r)
			}
		}
	}
	return out
}

// wantHas: P20.1.
func wantHas(p api.Policy, peers []api.Peer, s api.Sel, a api.Addr) bool {
	has := func(r row) bool { return r.has(placeOf(a)) }
	return wantMayAddr(a) && slices.ContainsFunc(wantSpans(p, peers, s), has)
}

func wantOne(p api.Policy, peers []api.Peer, l []api.Sel, a api.Addr) bool {
	return slices.ContainsFunc(l, func(s api.Sel) bool { return wantHas(p, peers, s, a) })
}

// wantProtos are those for which an accept's stand.
func wantProtos(l []uint8) []uint8 {
	var out []uint8
	for n := range 256 {
		if slices.Contains(l, uint8(n)) || n == 58 && slices.Contains(l, 1) {
			out = append(out, uint8(n))
		}
	}
	return out
}

func wantByPort(l []api.Ports, f api.Flow) bool {
	if len(l) == 0 {
		return true
	}
	for _, r := range l {
		if (f.Proto == 6 || f.Proto == 17) && int(r.From) <= int(f.To) && int(f.To) <= int(r.To) {
			return true
		}
	}
	return false
}

// wantPermits: P20.2.
func wantPermits(p api.Policy, peers []api.Peer, h api.Head) bool {
	if policy.May(p) != api.OK {
		return false
	}
	for _, x := range p.Acls {
		protos := wantProtos(x.Protos)
		if (len(protos) == 0 || slices.Contains(protos, h.Flow.Proto)) && wantByPort(x.Ports, h.Flow) &&
			wantOne(p, peers, x.Src, h.Flow.Src) && wantOne(p, peers, x.Dst, h.Flow.Dst) {
			return true
		}
	}
	return false
}

// wantCompile: P20.3.
func wantCompile(p api.Policy, peers []api.Peer, self []api.Addr) ([]api.Rule, api.Errno) {
	if policy.May(p) != api.OK {
		return nil, api.ErrArg
	}
	var out []api.Rule
	for _, x := range p.Acls {
		var dst []api.AddrSpan
		for _, a := range self {
			if wantOne(p, peers, x.Dst, a) {
				dst = append(dst, api.AddrSpan{Lo: a, Hi: a})
			}
		}
		if dst == nil {
			continue
		}
		var src []api.AddrSpan
		for _, s := range x.Src {
			for _, r := range wantSpans(p, peers, s) {
				src = append(src, api.AddrSpan{Lo: addrAt(r.from), Hi: addrAt(new(big.Int).Sub(r.end, big.NewInt(1)))})
			}
		}
		out = append(out, api.Rule{Protos: wantProtos(x.Protos), Src: wantNorm(src), Dst: wantNorm(dst), Ports: wantPorts(x.Ports)})
	}
	return out, api.OK
}

// wantMatch: P20.4.
func wantMatch(l []api.Rule, h api.Head) int {
	in := func(spans []api.AddrSpan, a api.Addr) bool {
		return wantMayAddr(a) && slices.ContainsFunc(spans, func(s api.AddrSpan) bool {
			r, is := rowOf(s)
			return is && r.has(placeOf(a))
		})
	}
	for i, r := range l {
		if (len(r.Protos) == 0 || slices.Contains(r.Protos, h.Flow.Proto)) && wantByPort(r.Ports, h.Flow) &&
			in(r.Src, h.Flow.Src) && in(r.Dst, h.Flow.Dst) {
			return i
		}
	}
	return -1
}

// sameRules: whether both are the same, lists without elements as nil ones.
func sameRules(a, b []api.Rule) bool {
	return slices.EqualFunc(a, b, func(x, y api.Rule) bool {
		return slices.Equal(x.Protos, y.Protos) && slices.Equal(x.Src, y.Src) && slices.Equal(x.Dst, y.Dst) && slices.Equal(x.Ports, y.Ports)
	})
}

// addr is the address of a text.
func addr(t testing.TB, s string) api.Addr {
	t.Helper()
	a, err := ip.Read(s)
	if err != api.OK {
		t.Fatalf("%q is no address", s)
	}
	return a
}

func net(t testing.TB, s string) api.Prefix {
	t.Helper()
	p, err := ip.ReadPrefix(s)
	if err != api.OK {
		t.Fatalf("%q is no prefix", s)
	}
	return p
}

// said is the policy of a text.
func said(t testing.TB, text string) api.Policy {
	t.Helper()
	p, f := policy.Parse(text)
	if f != (api.Fault{}) {
		t.Fatalf("%q: %v", text, f)
	}
	return p
}

func four(n uint64) api.Addr { return api.Addr{Lo: n} }

func six(hi, lo uint64) api.Addr { return api.Addr{V6: true, Hi: hi, Lo: lo} }

func flow(proto uint8, src, dst api.Addr, to uint16) api.Head {
	return api.Head{Flow: api.Flow{Proto: proto, Src: src, Dst: dst, To: to}}
}
