package rules

import (
	"slices"

	"isthmus/api"
)

// protosOf are the protocols of an accept of a policy that may be, rising: ICMP6 is above
// all that it may have.
func protosOf(x api.Acl) []uint8 {
	out := slices.Clone(x.Protos)
	if slices.Contains(out, api.ICMP) {
		out = append(out, api.ICMP6)
	}
	return out
}

func byProto(protos []uint8, f api.Flow) bool {
	return len(protos) == 0 || slices.Contains(protos, f.Proto)
}

// byPort tells whether ports let a flow be: if there are some, only those do whose
// protocol has ports.
func byPort(ports []api.Ports, f api.Flow) bool {
	counts := f.Proto == api.TCP || f.Proto == api.UDP
	has := func(r api.Ports) bool { return r.From <= f.To && f.To <= r.To }
	return len(ports) == 0 || counts && slices.ContainsFunc(ports, has)
}
