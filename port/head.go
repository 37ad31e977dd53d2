package port

import (
	"isthmus/api"
	"isthmus/code"
)

// How many bytes stand ahead of what is carried; of TCP at least so many.
const (
	udpHeader  = 8
	tcpHeader  = 20
	echoHeader = 8
)

// Where things stand in what a packet carries, by how many bytes are ahead of them.
const (
	fromAt   = 0
	toAt     = 2
	lengthAt = 4  // of UDP
	sumAt    = 6  // of UDP
	offsetAt = 12 // of TCP: in the high half, how many times four bytes are ahead of what it carries
	flagsAt  = 13 // of TCP
	kindAt   = 0  // of ICMP
	codeAt   = 1  // of ICMP
	idAt     = 4  // of ICMP
)

// headOf is what p tells, in which nothing is wrong.
func headOf(p api.Packet) api.Head {
	h := api.Head{Flow: bareFlow(p), Size: len(p.Data) - headerOf(p)}
	switch p.Proto {
	case api.TCP:
		h.Flags = p.Data[flagsAt]
		fallthrough
	case api.UDP:
		h.Flow.From, h.Flow.To = pairAt(p.Data, fromAt), pairAt(p.Data, toAt)
	case api.ICMP, api.ICMP6:
		h.Kind, h.Code = p.Data[kindAt], p.Data[codeAt]
		if isEcho(p.Proto, h.Kind) {
			h.Flow = echoFlow(p.Src, p.Dst, pairAt(p.Data, idAt))
		}
	}
	return h
}

// headerOf is how many bytes of p stand ahead of what it carries.
func headerOf(p api.Packet) int {
	switch p.Proto {
	case api.UDP:
		return udpHeader
	case api.TCP:
		return int(p.Data[offsetAt]>>4) * 4
	case api.ICMP, api.ICMP6:
		return echoHeader
	}
	return 0
}

// faultOf is what is wrong with what p carries; p may be.
func faultOf(p api.Packet) api.Errno {
	switch p.Proto {
	case api.UDP:
		return faultOfUdp(p)
	case api.TCP:
		return faultOfTcp(p)
	case api.ICMP, api.ICMP6:
		return faultOfEcho(p)
	}
	return api.OK
}

func faultOfUdp(p api.Packet) api.Errno {
	switch {
	case len(p.Data) < udpHeader:
		return api.ErrShort
	case int(pairAt(p.Data, lengthAt)) != len(p.Data):
		return api.ErrForm
	// IPv4 leaves it to who sends to tell no sum.
	case !p.Src.V6 && pairAt(p.Data, sumAt) == 0:
		return api.OK
	}
	return faultOfSum(p)
}

func faultOfTcp(p api.Packet) api.Errno {
	if len(p.Data) < tcpHeader {
		return api.ErrShort
	}
	if header := headerOf(p); header < tcpHeader || header > len(p.Data) {
		return api.ErrForm
	}
	return faultOfSum(p)
}

func faultOfEcho(p api.Packet) api.Errno {
	switch {
	case bareFlow(p) != echoFlow(p.Src, p.Dst, 0):
		return api.ErrForm
	case len(p.Data) < echoHeader:
		return api.ErrShort
	}
	return faultOfSum(p)
}

func faultOfSum(p api.Packet) api.Errno {
	if sumOf(p) != 0 {
		return api.ErrSum
	}
	return api.OK
}

// pairAt is the number of two bytes of s.
func pairAt(s string, at int) uint16 {
	return code.New(s[at:]).U16()
}
