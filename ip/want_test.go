package ip_test

import (
	"encoding/binary"
	"math/big"
	"net/netip"
	"strconv"
	"strings"

	"isthmus/api"
)

// What the chapter asks, once more: sums by a remainder of one great number,
// addresses by net/netip, where that has the same texts, packets byte by byte.

// wantSum: a text of 16 bits each is a number to the base 2^16; modulo 2^16 - 1 it is
// what its digits add up to, if what goes beyond comes round. 0 never comes out of
// digits of which one is not 0.
func wantSum(s string) uint16 {
	if len(s)%2 == 1 {
		s += "\x00"
	}
	n := new(big.Int).SetBytes([]byte(s))
	if n.Sign() == 0 {
		return 0xffff
	}
	rest := new(big.Int).Mod(n, big.NewInt(0xffff)).Uint64()
	if rest == 0 {
		rest = 0xffff
	}
	return uint16(0xffff - rest)
}

func wantMayAddr(a api.Addr) bool {
	return a.V6 || a.Hi == 0 && a.Lo <= 0xffffffff
}

func wantMay(p api.Packet) api.Errno {
	switch {
	case !wantMayAddr(p.Src) || !wantMayAddr(p.Dst) || p.Src.V6 != p.Dst.V6:
		return api.ErrArg
	case p.Src.V6 && len(p.Data) > 1460 || !p.Src.V6 && len(p.Data) > 1480:
		return api.ErrLong
	}
	return api.OK
}

// wantBytes are those of a packet that may be.
func wantBytes(p api.Packet) string {
	b := binary.BigEndian
	if p.Src.V6 {
		out := []byte{0x60, 0, 0, 0}
		out = b.AppendUint16(out, uint16(len(p.Data)))
		out = append(out, p.Proto, p.TTL)
		out = b.AppendUint64(b.AppendUint64(out, p.Src.Hi), p.Src.Lo)
		out = b.AppendUint64(b.AppendUint64(out, p.Dst.Hi), p.Dst.Lo)
		return string(out) + p.Data
	}
	out := []byte{0x45, 0}
	out = b.AppendUint16(out, uint16(20+len(p.Data)))
	out = append(out, 0, 0, 0, 0, p.TTL, p.Proto, 0, 0)
	out = b.AppendUint32(out, uint32(p.Src.Lo))
	out = b.AppendUint32(out, uint32(p.Dst.Lo))
	return summed(string(out)) + p.Data
}

// summed is s, which begins with a header of IPv4, with the sum that belongs there.
func summed(s string) string {
	out := []byte(s)
	out[10], out[11] = 0, 0
	binary.BigEndian.PutUint16(out[10:], wantSum(string(out[:20])))
	return string(out)
}

func wantDecode(s string) (api.Packet, api.Errno) {
	if len(s) > 1500 {
		return api.Packet{}, api.ErrLong
	}
	if len(s) == 0 {
		return api.Packet{}, api.ErrShort
	}
	switch s[0] & 0xf0 {
	case 0x40:
		return wantFour([]byte(s))
	case 0x60:
		return wantSix([]byte(s))
	}
	return api.Packet{}, api.ErrVersion
}

func wantFour(s []byte) (api.Packet, api.Errno) {
	b := binary.BigEndian
	if len(s) < 20 {
		return api.Packet{}, api.ErrShort
	}
	if s[0]%16 != 5 {
		return api.Packet{}, api.ErrExtra
	}
	if int(b.Uint16(s[2:])) != len(s) {
		return api.Packet{}, api.ErrForm
	}
	if wantSum(string(s[:20])) != 0 {
		return api.Packet{}, api.ErrSum
	}
	if s[6] != 0 && s[6] != 0x40 || s[7] != 0 {
		return api.Packet{}, api.ErrPiece
	}
	src, dst := uint64(b.Uint32(s[12:])), uint64(b.Uint32(s[16:]))
	return api.Packet{Src: api.Addr{Lo: src}, Dst: api.Addr{Lo: dst}, Proto: s[9], TTL: s[8], Data: string(s[20:])}, api.OK
}

func wantSix(s []byte) (api.Packet, api.Errno) {
	b := binary.BigEndian
	if len(s) < 40 {
		return api.Packet{}, api.ErrShort
	}
	if 40+int(b.Uint16(s[4:])) != len(s) {
		return api.Packet{}, api.ErrForm
	}
	if strings.Contains("\x00\x2b\x2c\x32\x33\x3c", string(s[6:7])) {
		return api.Packet{}, api.ErrExtra
	}
	src := api.Addr{V6: true, Hi: b.Uint64(s[8:]), Lo: b.Uint64(s[16:])}
	dst := api.Addr{V6: true, Hi: b.Uint64(s[24:]), Lo: b.Uint64(s[32:])}
	return api.Packet{Src: src, Dst: dst, Proto: s[6], TTL: s[7], Data: string(s[40:])}, api.OK
}

// wantText is that of net/netip, but for addresses of IPv6 that hold one of IPv4,
// whose end it tells in tens: these have their five noughts at the front.
func wantText(a api.Addr) string {
	if !wantMayAddr(a) {
		return ""
	}
	if !a.V6 {
		var b [4]byte
		binary.BigEndian.PutUint32(b[:], uint32(a.Lo))
		return netip.AddrFrom4(b).String()
	}
	var b [16]byte
	binary.BigEndian.PutUint64(b[:], a.Hi)
	binary.BigEndian.PutUint64(b[8:], a.Lo)
	if x := netip.AddrFrom16(b); !x.Is4In6() {
		return x.String()
	}
	return "::ffff:" + strconv.FormatUint(a.Lo>>16%0x10000, 16) + ":" + strconv.FormatUint(a.Lo%0x10000, 16)
}

// wantRead is what net/netip reads, which takes more texts, if s is its text.
func wantRead(s string) (api.Addr, api.Errno) {
	x, err := netip.ParseAddr(s)
	if err != nil || x.Zone() != "" {
		return api.Addr{}, api.ErrForm
	}
	b := x.As16()
	a := api.Addr{V6: true, Hi: binary.BigEndian.Uint64(b[:]), Lo: binary.BigEndian.Uint64(b[8:])}
	if x.Is4() {
		a = api.Addr{Lo: uint64(binary.BigEndian.Uint32(b[12:]))}
	}
	if wantText(a) != s {
		return api.Addr{}, api.ErrForm
	}
	return a, api.OK
}

// bitsOf are the bits of an address that may be, the first one first, as digits.
func bitsOf(a api.Addr) string {
	digits := func(x uint64, count int) string {
		s := strconv.FormatUint(x, 2)
		return strings.Repeat("0", count-len(s)) + s
	}
	if !a.V6 {
		return digits(a.Lo, 32)
	}
	return digits(a.Hi, 64) + digits(a.Lo, 64)
}

func wantMayPrefix(p api.Prefix) bool {
	if !wantMayAddr(p.Addr) {
		return false
	}
	s := bitsOf(p.Addr)
	return int(p.Bits) <= len(s) && !strings.Contains(s[p.Bits:], "1")
}

func wantHolds(p api.Prefix, a api.Addr) bool {
	if !wantMayPrefix(p) || !wantMayAddr(a) || p.Addr.V6 != a.V6 {
		return false
	}
	return bitsOf(p.Addr)[:p.Bits] == bitsOf(a)[:p.Bits]
}

func wantPrefixText(p api.Prefix) string {
	if !wantMayPrefix(p) {
		return ""
	}
	return wantText(p.Addr) + "/" + strconv.Itoa(int(p.Bits))
}

func wantReadPrefix(s string) (api.Prefix, api.Errno) {
	at := strings.LastIndex(s, "/")
	if at < 0 {
		return api.Prefix{}, api.ErrForm
	}
	a, err := wantRead(s[:at])
	for n := range 129 {
		p := api.Prefix{Addr: a, Bits: uint8(n)}
		if err == api.OK && wantPrefixText(p) == s {
			return p, api.OK
		}
	}
	return api.Prefix{}, api.ErrForm
}

func wantLess(a, b api.Addr) bool {
	return !a.V6 && b.V6 || a.V6 == b.V6 && (a.Hi < b.Hi || a.Hi == b.Hi && a.Lo < b.Lo)
}
