package port_test

import (
	"encoding/binary"
	"math/big"

	"isthmus/api"
)

// What the chapter asks, once more: sums by a remainder of one great number, packets
// byte by byte, faults in the chapter's own order.

// wantSumOf: a text of 16 bits each is a number to the base 2^16; modulo 2^16 - 1 it is
// what its digits add up to, if what goes beyond comes round. 0 never comes out of
// digits of which one is not 0.
func wantSumOf(s string) uint16 {
	if len(s)%2 == 1 {
		s += "\x00"
	}
	n := new(big.Int).SetBytes([]byte(s))
	if n.Sign() == 0 {
		return 0xffff
	}
	rest := new(big.Int).Mod(n, big.NewInt(0xffff)).Uint64()
	if rest == 0 {
		rest = 0xffff
	}
	return uint16(0xffff - rest)
}

func wantMayAddr(a api.Addr) bool {
	return a.V6 || a.Hi == 0 && a.Lo <= 0xffffffff
}

func wantMay(p api.Packet) api.Errno {
	switch {
	case !wantMayAddr(p.Src) || !wantMayAddr(p.Dst) || p.Src.V6 != p.Dst.V6:
		return api.ErrArg
	case p.Src.V6 && len(p.Data) > 1460 || !p.Src.V6 && len(p.Data) > 1480:
		return api.ErrLong
	}
	return api.OK
}

// wantSum: P14.1.
func wantSum(p api.Packet) uint16 {
	if wantMay(p) != api.OK {
		return 0
	}
	if p.Proto != 6 && p.Proto != 17 && p.Proto != 58 {
		return wantSumOf(p.Data)
	}
	var ahead []byte
	for _, a := range []api.Addr{p.Src, p.Dst} {
		whole := binary.BigEndian.AppendUint64(binary.BigEndian.AppendUint64(nil, a.Hi), a.Lo)
		if a.V6 {
			ahead = append(ahead, whole...)
		} else {
			ahead = append(ahead, whole[12:]...)
		}
	}
	ahead = append(ahead, 0, p.Proto, byte(len(p.Data)>>8), byte(len(p.Data)))
	return wantSumOf(string(ahead) + p.Data)
}

func number(s string, at int) uint16 { return uint16(s[at])<<8 | uint16(s[at+1]) }

// wantDecode: P14.2.
func wantDecode(p api.Packet) (api.Head, api.Errno) {
	if err := wantMay(p); err != api.OK {
		return api.Head{}, err
	}
	if err := wantFault(p); err != api.OK {
		return api.Head{}, err
	}
	h := api.Head{Flow: api.Flow{Proto: p.Proto, Src: p.Src, Dst: p.Dst}}
	switch p.Proto {
	case 17:
		h.Flow.From, h.Flow.To, h.Size = number(p.Data, 0), number(p.Data, 2), len(p.Data)-8
	case 6:
		h.Flow.From, h.Flow.To, h.Flags, h.Size = number(p.Data, 0), number(p.Data, 2), p.Data[13], len(p.Data)-4*int(p.Data[12]/16)
	case 1, 58:
		h.Kind, h.Code, h.Size = p.Data[0], p.Data[1], len(p.Data)-8
		echo := h.Kind == 0 || h.Kind == 8
		if p.Proto == 58 {
			echo = h.Kind == 128 || h.Kind == 129
		}
		if echo {
			h.Flow.From, h.Flow.To = number(p.Data, 4), number(p.Data, 4)
		}
	default:
		h.Size = len(p.Data)
	}
	return h, api.OK
}

// wantFault: P14.2, of a packet that may be.
func wantFault(p api.Packet) api.Errno {
	n, sum := len(p.Data), wantSum(p)
	switch p.Proto {
	case 17:
		if n < 8 {
			return api.ErrShort
		}
		if number(p.Data, 4) != uint16(n) {
			return api.ErrForm
		}
		if sum != 0 && (number(p.Data, 6) != 0 || p.Src.V6) {
			return api.ErrSum
		}
	case 6:
		if n < 20 {
			return api.ErrShort
		}
		if half := int(p.Data[12] / 16); half < 5 || 4*half > n {
			return api.ErrForm
		}
		if sum != 0 {
			return api.ErrSum
		}
	case 1, 58:
		if p.Src.V6 != (p.Proto == 58) {
			return api.ErrForm
		}
		if n < 8 {
			return api.ErrShort
		}
		if sum != 0 {
			return api.ErrSum
		}
	}
	return api.OK
}

// sumPlace is where a protocol has its sum.
func sumPlace(proto uint8) int {
	switch proto {
	case 17:
		return 6
	case 6:
		return 16
	}
	return 2
}

// summed is p with the sum that belongs there, if there is place for it.
func summed(p api.Packet) api.Packet {
	at := sumPlace(p.Proto)
	if len(p.Data) < at+2 {
		return p
	}
	data := []byte(p.Data)
	data[at], data[at+1] = 0, 0
	p.Data = string(data)
	sum := wantSum(p)
	if p.Proto == 17 && sum == 0 {
		sum = 0xffff
	}
	binary.BigEndian.PutUint16(data[at:], sum)
	p.Data = string(data)
	return p
}

// wantMade: P14.3, of the header with 0 0 in place of the sum.
func wantMade(src, dst api.Addr, proto uint8, header []byte, data string) (api.Packet, api.Errno) {
	p := api.Packet{Src: src, Dst: dst, Proto: proto, TTL: 64, Data: string(header) + data}
	if err := wantMay(p); err != api.OK {
		return api.Packet{}, err
	}
	return summed(p), api.OK
}

func wantUdp(src, dst api.Endpoint, data string) (api.Packet, api.Errno) {
	n := len(data) + 8
	header := []byte{byte(src.Port >> 8), byte(src.Port), byte(dst.Port >> 8), byte(dst.Port), byte(n >> 8), byte(n), 0, 0}
	return wantMade(src.Addr, dst.Addr, 17, header, data)
}

func wantTcp(src, dst api.Endpoint, flags uint8, data string) (api.Packet, api.Errno) {
	header := []byte{byte(src.Port >> 8), byte(src.Port), byte(dst.Port >> 8), byte(dst.Port), 0, 0, 0, 0, 0, 0, 0, 0, 0x50, flags, 0xff, 0xff, 0, 0, 0, 0}
	return wantMade(src.Addr, dst.Addr, 6, header, data)
}

func wantEcho(src, dst api.Addr, id uint16, reply bool, data string) (api.Packet, api.Errno) {
	header := []byte{8, 0, 0, 0, byte(id >> 8), byte(id), 0, 0}
	if reply {
		header[0] = 0
	}
	if !src.V6 {
		return wantMade(src, dst, 1, header, data)
	}
	header[0] = 128
	if reply {
		header[0] = 129
	}
	return wantMade(src, dst, 58, header, data)
}
