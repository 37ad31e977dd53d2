package port

import (
	"isthmus/api"
	"isthmus/code"
)

// The kinds of ICMP, and of ICMP6, that are echoes.
const (
	askFour   = 8
	replyFour = 0
	askSix    = 128
	replySix  = 129
)

// flowOf is what goes by a protocol from an endpoint to another one.
func flowOf(proto uint8, src, dst api.Endpoint) api.Flow {
	return api.Flow{Proto: proto, Src: src.Addr, Dst: dst.Addr, From: src.Port, To: dst.Port}
}

// bareFlow is the flow of p without what its data tells of it.
func bareFlow(p api.Packet) api.Flow {
	return api.Flow{Proto: p.Proto, Src: p.Src, Dst: p.Dst}
}

// echoFlow is the flow of an echo: of each version another protocol is for that.
func echoFlow(src, dst api.Addr, id uint16) api.Flow {
	proto := api.ICMP
	if src.V6 {
		proto = api.ICMP6
	}
	return flowOf(proto, api.Endpoint{Addr: src, Port: id}, api.Endpoint{Addr: dst, Port: id})
}

// portBytes are the bytes that tell the ports of f.
func portBytes(f api.Flow) string { return code.U16(f.From) + code.U16(f.To) }

// kindOf is the kind of an echo, or of the reply to it.
func kindOf(proto uint8, reply bool) uint8 {
	switch {
	case proto == api.ICMP && reply:
		return replyFour
	case proto == api.ICMP:
		return askFour
	case reply:
		return replySix
	}
	return askSix
}

// isEcho tells whether that kind of ICMP or ICMP6 is an echo, or the reply to it.
func isEcho(proto, kind uint8) bool {
	return kind == kindOf(proto, false) || kind == kindOf(proto, true)
}
