package netmap

import (
	"cmp"
	"slices"

	"isthmus/api"
	"isthmus/ip"
	"isthmus/policy"
)

// mayMap tells whether m may be, however many bytes it has.
func mayMap(m api.Map) bool {
	return m.Version >= 1 &&
		mayPeers(m.Peers) && once(addrsOf(m.Peers)) &&
		mayRelays(m.Relays) && tellRelays(m) &&
		mayPolicy(m.Policy)
}

// mayDelta tells whether d may be, however many bytes it has, and whatever map it is for.
func mayDelta(d api.Delta) bool {
	return d.Base >= 1 && d.Version > d.Base &&
		mayPeers(d.Set) &&
		all(d.Gone, api.MaxPeers, isKey) && rising(d.Gone, cmp.Less) && !hasSome(d.Set, d.Gone) &&
		(d.HasRelays || len(d.Relays) == 0) && mayRelays(d.Relays) &&
		(d.HasPolicy || d.Policy == "") && mayPolicy(d.Policy) &&
		isKey(d.Hash)
}

// mayPeers tells whether each of l may be, and they rise by their keys. They may have
// addresses in common.
func mayPeers(l []api.Peer) bool {
	less := func(a, b api.Peer) bool { return a.Key < b.Key }
	return all(l, api.MaxPeers, mayPeer) && rising(l, less)
}

// mayPeer tells whether p may be, whatever relays there are.
func mayPeer(p api.Peer) bool {
	return isKey(p.Key) && isKey(p.Disco) && policy.Label(p.User) &&
		all(p.Tags, api.MaxTags, policy.Label) && rising(p.Tags, cmp.Less) &&
		len(p.Addrs) > 0 && all(p.Addrs, api.MaxAddrs, mayAddr) && rising(p.Addrs, ip.Less) &&
		all(p.Ends, api.MaxEnds, mayEnd) && once(p.Ends)
}

func mayRelays(l []api.RelayInfo) bool {
	less := func(a, b api.RelayInfo) bool { return a.ID < b.ID }
	return all(l, api.MaxRelays, mayRelay) && rising(l, less)
}

func mayRelay(x api.RelayInfo) bool { return isKey(x.Key) && mayEnd(x.End) }

func mayEnd(e api.Endpoint) bool { return mayAddr(e.Addr) }

// mayAddr tells whether a may be: a packet from it to itself may then, too.
func mayAddr(a api.Addr) bool {
	return ip.May(api.Packet{Src: a, Dst: a}) == api.OK
}

func mayPolicy(text string) bool {
	_, fault := policy.Parse(text)
	return fault.Err == api.OK
}

func isKey(s string) bool { return len(s) == api.Key }

// tellRelays tells whether m has the relay of each of its peers that has one.
func tellRelays(m api.Map) bool {
	for _, p := range m.Peers {
		its := func(x api.RelayInfo) bool { return x.ID == p.Relay }
		if p.Relay != 0 && !slices.ContainsFunc(m.Relays, its) {
			return false
		}
	}
	return true
}

// addrsOf are the addresses of all of l, as often as they have them.
func addrsOf(l []api.Peer) []api.Addr {
	var out []api.Addr
	for _, p := range l {
		out = append(out, p.Addrs...)
	}
	return out
}

// hasSome tells whether a peer of l has one of these keys.
func hasSome(l []api.Peer, keys []string) bool {
	has := func(p api.Peer) bool { return slices.Contains(keys, p.Key) }
	return slices.ContainsFunc(l, has)
}

// all tells whether l has at most so many elements, each of which may be.
func all[T any](l []T, most int, may func(T) bool) bool {
	if len(l) > most {
		return false
	}
	for _, x := range l {
		if !may(x) {
			return false
		}
	}
	return true
}

// rising tells whether each of l is less than the next one.
func rising[T any](l []T, less func(a, b T) bool) bool {
	for i := 1; i < len(l); i++ {
		if !less(l[i-1], l[i]) {
			return false
		}
	}
	return true
}

// once tells whether no two of l are the same.
func once[T comparable](l []T) bool {
	seen := map[T]struct{}{}
	for _, x := range l {
		seen[x] = struct{}{}
	}
	return len(seen) == len(l)
}
