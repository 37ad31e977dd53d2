package netmap

import (
	"cmp"
	"slices"

	"isthmus/api"
	"isthmus/blake"
)

// Diff is what is new from a to b.
func Diff(a, b api.Map) (api.Delta, api.Errno) {
	if err := May(a); err != api.OK {
		return api.Delta{}, err
	}
	s, err := Encode(b)
	switch {
	case err != api.OK:
		return api.Delta{}, err
	case b.Version <= a.Version:
		return api.Delta{}, api.ErrArg
	}
	d := api.Delta{Base: a.Version, Version: b.Version, Hash: blake.Of(s)}
	d.Set = setFrom(a, b)
	d.Gone = goneFrom(a, b)
	if !slices.Equal(a.Relays, b.Relays) {
		d.HasRelays, d.Relays = true, slices.Clone(b.Relays)
	}
	if a.Policy != b.Policy {
		d.HasPolicy, d.Policy = true, b.Policy
	}
	return d, api.OK
}

// setFrom are the peers of b that are not, all the same, in a.
func setFrom(a, b api.Map) []api.Peer {
	var out []api.Peer
	for _, p := range b.Peers {
		old, is := ByKey(a, p.Key)
		if !is || !samePeer(old, p) {
			out = append(out, copyPeer(p))
		}
	}
	return out
}

// goneFrom are the keys of a's peers that b has not.
func goneFrom(a, b api.Map) []string {
	var out []string
	for _, p := range a.Peers {
		if _, is := ByKey(b, p.Key); !is {
			out = append(out, p.Key)
		}
	}
	return out
}

// Apply is the map that d makes of m.
func Apply(m api.Map, d api.Delta) (api.Map, api.Errno) {
	if err := fits(m, d); err != api.OK {
		return api.Map{}, err
	}
	next := api.Map{Version: d.Version, Peers: changed(m.Peers, d), Relays: m.Relays, Policy: m.Policy}
	if d.HasRelays {
		next.Relays = d.Relays
	}
	if d.HasPolicy {
		next.Policy = d.Policy
	}
	s, err := Encode(next)
	switch {
	case err != api.OK:
		return api.Map{}, err
	case blake.Of(s) != d.Hash:
		return api.Map{}, api.ErrHash
	}
	return Copy(next), api.OK
}

// fits tells whether d is one that is for m.
func fits(m api.Map, d api.Delta) api.Errno {
	if err := May(m); err != api.OK {
		return err
	}
	switch {
	case !mayDelta(d):
		return api.ErrMap
	case m.Version != d.Base:
		return api.ErrGap
	}
	for _, key := range d.Gone {
		if _, is := ByKey(m, key); !is {
			return api.ErrMap
		}
	}
	return api.OK
}

// changed are the peers l, with what d tells of them; they rise by their keys again.
func changed(l []api.Peer, d api.Delta) []api.Peer {
	out := slices.Clone(d.Set)
	for _, p := range l {
		its := func(q api.Peer) bool { return q.Key == p.Key }
		if !slices.ContainsFunc(d.Set, its) && !slices.Contains(d.Gone, p.Key) {
			out = append(out, p)
		}
	}
	slices.SortFunc(out, func(a, b api.Peer) int { return cmp.Compare(a.Key, b.Key) })
	return out
}
