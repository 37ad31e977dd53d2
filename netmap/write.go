package netmap

import (
	"strings"

	"isthmus/api"
	"isthmus/code"
)

// What is written may be, so that no text is too long for code.Text, and no list for the
// 16 bits that tell how many it has.

// The first byte of an address tells which version it is of.
const (
	addrFour = 4
	addrSix  = 6
)

// A byte ahead of what a delta may have tells whether it has it.
const (
	hasNone = 0
	hasIt   = 1
)

func writeMap(m api.Map) string {
	return code.U64(m.Version) +
		writeList(m.Peers, writePeer) +
		writeList(m.Relays, writeRelay) +
		writeText(m.Policy)
}

func writeDelta(d api.Delta) string {
	return code.U64(d.Base) + code.U64(d.Version) +
		writeList(d.Set, writePeer) +
		writeList(d.Gone, writeAsIs) +
		writePart(d.HasRelays, writeList(d.Relays, writeRelay)) +
		writePart(d.HasPolicy, writeText(d.Policy)) +
		d.Hash
}

func writePeer(p api.Peer) string {
	return p.Key + p.Disco + writeText(p.User) +
		writeList(p.Tags, writeText) +
		writeList(p.Addrs, writeAddr) +
		code.U64(p.Expiry) + writeByte(p.Relay) +
		writeList(p.Ends, writeEnd)
}

func writeRelay(x api.RelayInfo) string { return writeByte(x.ID) + x.Key + writeEnd(x.End) }

func writeEnd(e api.Endpoint) string { return writeAddr(e.Addr) + code.U16(e.Port) }

func writeAddr(a api.Addr) string {
	if a.V6 {
		return writeByte(addrSix) + code.U64(a.Hi) + code.U64(a.Lo)
	}
	return writeByte(addrFour) + code.U32(uint32(a.Lo))
}

func writeText(s string) string {
	out, _ := code.Text(s)
	return out
}

func writeAsIs(s string) string { return s }

func writeByte(b uint8) string { return string([]byte{b}) }

// writePart is what a delta may have, and ahead of it whether it has it.
func writePart(has bool, s string) string {
	if !has {
		return writeByte(hasNone)
	}
	return writeByte(hasIt) + s
}

// writeList is how many l has, and the bytes of each, as one tells them.
func writeList[T any](l []T, one func(T) string) string {
	var out strings.Builder
	out.WriteString(code.U16(uint16(len(l))))
	for _, x := range l {
		out.WriteString(one(x))
	}
	return out.String()
}
