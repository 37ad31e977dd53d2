package policy

import (
	"slices"
	"strconv"
	"strings"

	"isthmus/api"
	"isthmus/ip"
)

// The words that say what stands behind them.
const (
	wordGroup  = "group"
	wordTag    = "tag"
	wordHost   = "host"
	wordAccept = "accept"
	wordIs     = "="
	wordFrom   = "from"
	wordTo     = "to"
	wordPorts  = "ports"
)

const (
	blanks = " \t"
	remark = "#"

	anyProto = "any"
	anybody  = "*"
)

// protoNames are the protocols in the order in which a word must have them: rising.
var protoNames = [...]struct {
	number uint8
	name   string
}{{api.ICMP, "icmp"}, {api.TCP, "tcp"}, {api.UDP, "udp"}}

// selNames are the kinds of selectors that have a name or a prefix.
var selNames = [...]struct {
	kind uint8
	name string
}{{api.SelUser, "user"}, {api.SelGroup, "group"}, {api.SelTag, "tag"}, {api.SelHost, "host"}, {api.SelNet, "net"}}

// wordsOf takes the words off a line, one a call; nothing, once there are none left.
func wordsOf(line string) func() string {
	return func() string {
		line = strings.TrimLeft(line, blanks)
		if strings.HasPrefix(line, remark) {
			line = ""
		}
		word := line
		if end := strings.IndexAny(line, blanks); end >= 0 {
			word = line[:end]
		}
		line = line[len(word):]
		return word
	}
}

func isSmall(b byte) bool { return 'a' <= b && b <= 'z' }

func isOfName(b byte) bool {
	return isSmall(b) || '0' <= b && b <= '9' || b == '.' || b == '_' || b == '-'
}

// protosOf are the protocols that a word says: none, if that is any.
func protosOf(word string) ([]uint8, bool) {
	if word == anyProto {
		return nil, true
	}
	var out []uint8
	for _, name := range strings.Split(word, ",") {
		out = append(out, protoOf(name))
	}
	return out, rising(out)
}

// protoOf is the protocol of that name; 0, which none has, if there is none.
func protoOf(name string) uint8 {
	for _, row := range protoNames {
		if row.name == name {
			return row.number
		}
	}
	return 0
}

// rising tells whether they are above 0, and each above the one ahead of it.
func rising(protos []uint8) bool {
	last := uint8(0)
	for _, x := range protos {
		if x <= last {
			return false
		}
		last = x
	}
	return true
}

func protosText(protos []uint8) string {
	if len(protos) == 0 {
		return anyProto
	}
	var names []string
	for _, row := range protoNames {
		if slices.Contains(protos, row.number) {
			names = append(names, row.name)
		}
	}
	return strings.Join(names, ",")
}

// selOf is the selector that a word says.
func selOf(word string) (api.Sel, bool) {
	if word == anybody {
		return api.Sel{Kind: api.SelAny}, true
	}
	name, rest, _ := strings.Cut(word, ":")
	s := api.Sel{Kind: kindOf(name)}
	if s.Kind == api.SelNet {
		// What is no prefix is read as one that may be: only the error tells.
		net, err := ip.ReadPrefix(rest)
		s.Net = net
		return s, err == api.OK
	}
	s.Name = rest
	return s, maySel(s)
}

// kindOf is the kind of selectors of that name; 0, which none has, if there is none.
func kindOf(name string) uint8 {
	for _, row := range selNames {
		if row.name == name {
			return row.kind
		}
	}
	return 0
}

// selText is the word of a selector that may be.
func selText(s api.Sel) string {
	for _, row := range selNames {
		switch {
		case row.kind != s.Kind:
		case row.kind == api.SelNet:
			return row.name + ":" + ip.PrefixText(s.Net)
		default:
			return row.name + ":" + s.Name
		}
	}
	return anybody
}

// rangeOf are the ports that a word says.
func rangeOf(word string) (api.Ports, bool) {
	first, second, two := strings.Cut(word, "-")
	if !two {
		second = first
	}
	from, is := portOf(first)
	to, too := portOf(second)
	return api.Ports{From: from, To: to}, is && too && from <= to
}

// portOf is the number that s says. It counts only if s is told of it again: that
// leaves one text for each.
func portOf(s string) (uint16, bool) {
	n, err := strconv.ParseUint(s, 10, 16)
	return uint16(n), err == nil && portText(uint16(n)) == s
}

func portText(n uint16) string { return strconv.Itoa(int(n)) }

func rangeText(p api.Ports) string {
	if p.From == p.To {
		return portText(p.From)
	}
	return portText(p.From) + "-" + portText(p.To)
}
