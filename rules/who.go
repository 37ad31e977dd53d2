package rules

import (
	"iter"
	"slices"

	"isthmus/api"
	"isthmus/ip"
)

// selected is what a selector has, by its kind: spans one by one, some of which may not
// be, if a peer has such an address.
func selected(p api.Policy, peers []api.Peer, s api.Sel) iter.Seq[api.AddrSpan] {
	switch s.Kind {
	case api.SelAny:
		return ofNets(api.Prefix{}, api.Prefix{Addr: api.Addr{V6: true}})
	case api.SelUser:
		return ofPeers(peers, func(x api.Peer) bool { return x.User == s.Name })
	case api.SelGroup:
		users := usersOf(p, s.Name)
		return ofPeers(peers, func(x api.Peer) bool { return slices.Contains(users, x.User) })
	case api.SelTag:
		return ofPeers(peers, func(x api.Peer) bool { return slices.Contains(x.Tags, s.Name) })
	case api.SelHost:
		return ofNets(netsOf(p, s.Name)...)
	case api.SelNet:
		return ofNets(s.Net)
	}
	return ofNets()
}

// selectedBy is what one of the selectors has.
func selectedBy(p api.Policy, peers []api.Peer, list []api.Sel) iter.Seq[api.AddrSpan] {
	return func(yield func(api.AddrSpan) bool) {
		for _, s := range list {
			for x := range selected(p, peers, s) {
				if !yield(x) {
					return
				}
			}
		}
	}
}

func ofNets(nets ...api.Prefix) iter.Seq[api.AddrSpan] {
	return func(yield func(api.AddrSpan) bool) {
		for _, n := range nets {
			if ip.MayPrefix(n) && !yield(spanOf(n)) {
				return
			}
		}
	}
}

// ofPeers has the addresses of those peers of whom is says so.
func ofPeers(peers []api.Peer, is func(api.Peer) bool) iter.Seq[api.AddrSpan] {
	return func(yield func(api.AddrSpan) bool) {
		for _, x := range peers {
			if !is(x) {
				continue
			}
			for _, a := range x.Addrs {
				if !yield(alone(a)) {
					return
				}
			}
		}
	}
}

// usersOf are the names of the first group of that name.
func usersOf(p api.Policy, name string) []string {
	for _, x := range p.Groups {
		if x.Name == name {
			return x.List
		}
	}
	return nil
}

// netsOf is where the first host of that name is, if there is one.
func netsOf(p api.Policy, name string) []api.Prefix {
	for _, x := range p.Hosts {
		if x.Name == name {
			return []api.Prefix{x.Net}
		}
	}
	return nil
}
