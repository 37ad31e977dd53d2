package port

import (
	"isthmus/api"
	"isthmus/code"
	"isthmus/ip"
)

// hops is the TTL of all that is made here.
const hops = 64

// packetOf is the packet of f that carries data. Its header is told without the sum, by
// what stands ahead of that and what behind.
func packetOf(f api.Flow, ahead, behind, data string) (api.Packet, api.Errno) {
	// What goes beyond that makes it no longer than too long: it is not copied.
	behind += data[:min(len(data), api.MaxPacket)]
	p := api.Packet{Src: f.Src, Dst: f.Dst, Proto: f.Proto, TTL: hops, Data: ahead + code.U16(0) + behind}
	if err := ip.May(p); err != api.OK {
		return api.Packet{}, err
	}
	p.Data = ahead + code.U16(toldSum(p)) + behind
	return p, api.OK
}

// toldSum is what p tells as its sum, which has 0 in that place yet.
func toldSum(p api.Packet) uint16 {
	sum := sumOf(p)
	// A sum of 0 would say of UDP that none is told; this one adds up to the same.
	if p.Proto == api.UDP && sum == 0 {
		return 0xffff
	}
	return sum
}

// sumOf is the sum of p, which may be.
func sumOf(p api.Packet) uint16 {
	switch p.Proto {
	case api.TCP, api.UDP, api.ICMP6:
		return ip.Sum(addrBytes(p.Src) + addrBytes(p.Dst) + string([]byte{0, p.Proto}) + code.U16(uint16(len(p.Data))) + p.Data)
	}
	return ip.Sum(p.Data)
}

// addrBytes are the bytes of a, which may be.
func addrBytes(a api.Addr) string {
	if a.V6 {
		return code.U64(a.Hi) + code.U64(a.Lo)
	}
	return code.U32(uint32(a.Lo))
}
