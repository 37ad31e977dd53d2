package ip

import (
	"isthmus/api"
	"isthmus/code"
)

const (
	piecesAt      = 6 // bytes of an IPv4 header that tell of pieces, two of them
	sumAt         = 10
	doNotFragment = 1 << 14
)

// layout is what the header of a version is: its first byte, how many bytes it has,
// and at which of them things stand.
type layout struct {
	first      byte
	header     int
	length     int
	ttl, proto int
	addrs      int
	uncounted  int // bytes from the first one on that the length does not tell of
}

func layoutOf(v6 bool) layout {
	if v6 {
		return layout{first: 0x60, header: 40, length: 4, proto: 6, ttl: 7, addrs: 8, uncounted: 40}
	}
	return layout{first: 0x45, header: 20, length: 2, ttl: 8, proto: 9, addrs: 12}
}

// bytesOf are the bytes of p, which may be.
func bytesOf(p api.Packet) string {
	var out [api.MaxPacket]byte
	at := layoutOf(p.Src.V6)
	size := at.addrs + copy(out[at.addrs:], addrBytes(p.Src)+addrBytes(p.Dst)+p.Data)
	out[0] = at.first
	copy(out[at.length:], code.U16(uint16(size-at.uncounted)))
	out[at.ttl], out[at.proto] = p.TTL, p.Proto
	if !p.Src.V6 {
		copy(out[sumAt:], code.U16(Sum(string(out[:at.header]))))
	}
	return string(out[:size])
}

// packetOf is the packet whose bytes s are, which have no fault.
func packetOf(s string) api.Packet {
	v6 := isSix(s)
	at := layoutOf(v6)
	r := code.New(s[at.addrs:])
	p := api.Packet{Proto: s[at.proto], TTL: s[at.ttl]}
	p.Src = readAddr(r, v6)
	p.Dst = readAddr(r, v6)
	p.Data = r.Take(r.Left())
	return p
}

// isSix tells whether s, which has bytes, says that it is of IPv6.
func isSix(s string) bool { return s[0]>>4 == 6 }

// firstFault is what is wrong with s, whatever its version is.
func firstFault(s string) api.Errno {
	switch {
	case len(s) > api.MaxPacket:
		return api.ErrLong
	case s == "":
		return api.ErrShort
	case s[0]>>4 != 4 && s[0]>>4 != 6:
		return api.ErrVersion
	}
	return api.OK
}

// headerFault is what is wrong with s for its version, which it has.
func headerFault(s string) api.Errno {
	if isSix(s) {
		return faultOfSix(s)
	}
	return faultOfFour(s)
}

func faultOfFour(s string) api.Errno {
	at := layoutOf(false)
	switch {
	case len(s) < at.header:
		return api.ErrShort
	case s[0] != at.first:
		return api.ErrExtra
	case !tellsLength(s, at):
		return api.ErrForm
	case Sum(s[:at.header]) != 0:
		return api.ErrSum
	case pairAt(s, piecesAt)&^doNotFragment != 0:
		return api.ErrPiece
	}
	return api.OK
}

func faultOfSix(s string) api.Errno {
	at := layoutOf(true)
	switch {
	case len(s) < at.header:
		return api.ErrShort
	case !tellsLength(s, at):
		return api.ErrForm
	case isExtra(s[at.proto]):
		return api.ErrExtra
	}
	return api.OK
}

// tellsLength tells whether the length that s has in its header is its own.
func tellsLength(s string, at layout) bool {
	return at.uncounted+int(pairAt(s, at.length)) == len(s)
}

// pairAt is the number of two bytes of s.
func pairAt(s string, at int) uint16 {
	return code.New(s[at:]).U16()
}

// isExtra tells whether another header of IPv6 stands behind the first one, by the
// number that stands in place of a protocol's.
func isExtra(proto uint8) bool {
	switch proto {
	case 0, 43, 44, 50, 51, 60:
		return true
	}
	return false
}
