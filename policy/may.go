package policy

import (
	"slices"

	"isthmus/api"
	"isthmus/ip"
)

// mayBe tells whether p may be, however long its text is.
func mayBe(p api.Policy) bool {
	may := func(a api.Acl) bool { return mayAcl(p, a) }
	return all(p.Groups, 0, mayNamed) && once(p.Groups, nameOf) &&
		all(p.Tags, 0, mayNamed) && once(p.Tags, nameOf) &&
		all(p.Hosts, 0, mayHost) && once(p.Hosts, nameOfHost) &&
		all(p.Acls, 0, may)
}

// all tells whether a list has as many elements as it must, not more than it may, and
// each of them may be.
func all[T any](list []T, least int, may func(T) bool) bool {
	if len(list) < least || len(list) > api.MaxList {
		return false
	}
	for _, x := range list {
		if !may(x) {
			return false
		}
	}
	return true
}

// once tells whether no two have one name.
func once[T any](list []T, nameOf func(T) string) bool {
	var names []string
	for _, x := range list {
		names = append(names, nameOf(x))
	}
	slices.Sort(names)
	return len(slices.Compact(names)) == len(list)
}

func nameOf(x api.Named) string { return x.Name }

func nameOfHost(x api.HostName) string { return x.Name }

func mayNamed(x api.Named) bool { return Label(x.Name) && all(x.List, 1, Label) }

func mayHost(x api.HostName) bool { return Label(x.Name) && ip.MayPrefix(x.Net) }

func mayAcl(p api.Policy, a api.Acl) bool {
	may := func(s api.Sel) bool { return maySel(s) && tells(p, s) }
	return all(a.Protos, 0, mayProto) && rising(a.Protos) &&
		all(a.Src, 1, may) && all(a.Dst, 1, may) && all(a.Ports, 0, mayPorts)
}

func mayProto(n uint8) bool {
	for _, row := range protoNames {
		if row.number == n {
			return true
		}
	}
	return false
}

func mayPorts(p api.Ports) bool { return p.From <= p.To }

// maySel tells whether a selector may be, whatever is told.
func maySel(s api.Sel) bool {
	switch s.Kind {
	case api.SelAny:
		return s == api.Sel{Kind: s.Kind}
	case api.SelUser, api.SelGroup, api.SelTag, api.SelHost:
		return s == api.Sel{Kind: s.Kind, Name: s.Name} && Label(s.Name)
	case api.SelNet:
		return s == api.Sel{Kind: s.Kind, Net: s.Net} && ip.MayPrefix(s.Net)
	}
	return false
}

// tells tells whether p has what a selector names; all of those that name none.
func tells(p api.Policy, s api.Sel) bool {
	named := func(x api.Named) bool { return x.Name == s.Name }
	switch s.Kind {
	case api.SelGroup:
		return slices.ContainsFunc(p.Groups, named)
	case api.SelTag:
		return slices.ContainsFunc(p.Tags, named)
	case api.SelHost:
		return slices.ContainsFunc(p.Hosts, func(x api.HostName) bool { return x.Name == s.Name })
	}
	return true
}
