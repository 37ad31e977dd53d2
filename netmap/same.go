package netmap

import (
	"slices"

	"isthmus/api"
)

// Copy is m, with lists of its own.
func Copy(m api.Map) api.Map {
	m.Peers = copyPeers(m.Peers)
	m.Relays = slices.Clone(m.Relays)
	return m
}

// Same tells whether all of both is the same.
func Same(a, b api.Map) bool {
	return a.Version == b.Version &&
		slices.EqualFunc(a.Peers, b.Peers, samePeer) &&
		slices.Equal(a.Relays, b.Relays) &&
		a.Policy == b.Policy
}

// Find is the first peer of m that has the address a, if there is one.
func Find(m api.Map, a api.Addr) (api.Peer, bool) {
	return first(m, func(p api.Peer) bool { return slices.Contains(p.Addrs, a) })
}

// ByKey is the first peer of m that has this key, if there is one.
func ByKey(m api.Map, key string) (api.Peer, bool) {
	return first(m, func(p api.Peer) bool { return p.Key == key })
}

// first is the first peer of m that is it, with lists of its own.
func first(m api.Map, is func(api.Peer) bool) (api.Peer, bool) {
	i := slices.IndexFunc(m.Peers, is)
	if i < 0 {
		return api.Peer{}, false
	}
	return copyPeer(m.Peers[i]), true
}

func samePeer(a, b api.Peer) bool {
	return a.Key == b.Key &&
		a.Disco == b.Disco &&
		a.User == b.User &&
		slices.Equal(a.Tags, b.Tags) &&
		slices.Equal(a.Addrs, b.Addrs) &&
		a.Expiry == b.Expiry &&
		a.Relay == b.Relay &&
		slices.Equal(a.Ends, b.Ends)
}

func copyPeer(p api.Peer) api.Peer {
	p.Tags = slices.Clone(p.Tags)
	p.Addrs = slices.Clone(p.Addrs)
	p.Ends = slices.Clone(p.Ends)
	return p
}

func copyPeers(l []api.Peer) []api.Peer {
	out := slices.Clone(l)
	for i, p := range out {
		out[i] = copyPeer(p)
	}
	return out
}
