package rules

import (
	"cmp"
	"iter"
	"slices"

	"isthmus/api"
	"isthmus/ip"
)

// span is all from lo to hi, which is not below lo.
type span[E comparable] struct{ lo, hi E }

// merged are the spans that have the same as those of list, rising, none next to another
// one; list is sorted for that. It is handed how ends are compared, and which one stands
// right behind another one: behind the last one of all may stand the first one, but none
// in between.
func merged[E comparable](list []span[E], compare func(a, b E) int, next func(E) E) []span[E] {
	slices.SortFunc(list, func(a, b span[E]) int { return compare(a.lo, b.lo) })
	var out []span[E]
	for _, s := range list {
		last := len(out) - 1
		switch {
		case last < 0, compare(s.lo, out[last].hi) > 0 && s.lo != next(out[last].hi):
			out = append(out, s)
		case compare(s.hi, out[last].hi) > 0:
			out[last].hi = s.hi
		}
	}
	return out
}

// normPorts is the normal form of the ports of a policy that may be: none of them is
// empty.
func normPorts(l []api.Ports) []api.Ports {
	var list []span[uint16]
	for _, r := range l {
		list = append(list, span[uint16]{r.From, r.To})
	}
	next := func(n uint16) uint16 { return n + 1 }
	var out []api.Ports
	for _, s := range merged(list, cmp.Compare[uint16], next) {
		out = append(out, api.Ports{From: s.lo, To: s.hi})
	}
	return out
}

func compareAddrs(a, b api.Addr) int {
	switch {
	case ip.Less(a, b):
		return -1
	case ip.Less(b, a):
		return 1
	}
	return 0
}

// nextAddr stands right behind a. What stands behind the last one of IPv4 is none that
// may be, so that nothing there is next to IPv6.
func nextAddr(a api.Addr) api.Addr {
	a.Lo++
	if a.Lo == 0 {
		a.Hi++
	}
	return a
}

func mayAddr(a api.Addr) bool {
	return ip.Holds(api.Prefix{Addr: api.Addr{V6: a.V6}}, a)
}

func maySpan(s api.AddrSpan) bool {
	return mayAddr(s.Lo) && mayAddr(s.Hi) && s.Lo.V6 == s.Hi.V6 && !ip.Less(s.Hi, s.Lo)
}

// within tells whether one of the spans that may be has the address.
func within(spans iter.Seq[api.AddrSpan], a api.Addr) bool {
	for s := range spans {
		if !ip.Less(a, s.Lo) && !ip.Less(s.Hi, a) && maySpan(s) {
			return true
		}
	}
	return false
}

// those are the addresses of list that one of the spans has, a span each.
func those(list []api.Addr, spans iter.Seq[api.AddrSpan]) []api.AddrSpan {
	var out []api.AddrSpan
	for _, a := range list {
		if within(spans, a) {
			out = append(out, alone(a))
		}
	}
	return out
}

// alone is the span of one address.
func alone(a api.Addr) api.AddrSpan { return api.AddrSpan{Lo: a, Hi: a} }

// spanOf is the span of a prefix that may be.
func spanOf(p api.Prefix) api.AddrSpan {
	s := alone(p.Addr)
	free := 32 - int(p.Bits)
	if p.Addr.V6 {
		free = 128 - int(p.Bits)
		s.Hi.Hi |= ones(free - 64)
	}
	s.Hi.Lo |= ones(free)
	return s
}

// ones has the lowest bits of 64, as many as count says: none, if it is below 0, and
// all, if it is above 64.
func ones(count int) uint64 { return 1<<max(count, 0) - 1 }
