package policy

import (
	"strings"

	"isthmus/api"
	"isthmus/ip"
)

// textOf is the text of p, which may be but for how long its text is.
func textOf(p api.Policy) string {
	var out strings.Builder
	say := func(words []string) {
		out.WriteString(strings.Join(words, " "))
		out.WriteByte('\n')
	}
	for _, x := range p.Groups {
		say(append([]string{wordGroup, x.Name, wordIs}, x.List...))
	}
	for _, x := range p.Tags {
		say(append([]string{wordTag, x.Name, wordIs}, x.List...))
	}
	for _, x := range p.Hosts {
		say([]string{wordHost, x.Name, wordIs, ip.PrefixText(x.Net)})
	}
	for _, a := range p.Acls {
		say(aclWords(a))
	}
	return out.String()
}

func aclWords(a api.Acl) []string {
	out := []string{wordAccept, protosText(a.Protos), wordFrom}
	out = append(out, texts(a.Src, selText)...)
	out = append(out, wordTo)
	out = append(out, texts(a.Dst, selText)...)
	if len(a.Ports) > 0 {
		out = append(out, wordPorts)
		out = append(out, texts(a.Ports, rangeText)...)
	}
	return out
}

func texts[T any](list []T, text func(T) string) []string {
	var out []string
	for _, x := range list {
		out = append(out, text(x))
	}
	return out
}
