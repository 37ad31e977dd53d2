package port_test

import (
	"encoding/hex"
	"math"
	"math/rand"
	"testing"

	"isthmus/api"
	"isthmus/ip"
	"isthmus/port"
)

// stepped are so many bytes, from one on by a step.
func stepped(count, step, from int) string {
	b := make([]byte, count)
	for i := range b {
		b[i] = byte(i*step + from)
	}
	return string(b)
}

// some are so many bytes.
func some(r *rand.Rand, count int) string {
	b := make([]byte, count)
	r.Read(b)
	return string(b)
}

func four(lo uint64) api.Addr { return api.Addr{Lo: lo} }

func six(hi, lo uint64) api.Addr { return api.Addr{V6: true, Hi: hi, Lo: lo} }

func at(a api.Addr, port uint16) api.Endpoint { return api.Endpoint{Addr: a, Port: port} }

// with is p with other bytes of its data from a place on.
func with(p api.Packet, at int, bytes ...byte) api.Packet {
	p.Data = p.Data[:at] + string(bytes) + p.Data[at+len(bytes):]
	return p
}

// turned is p with a bit of its data turned.
func turned(p api.Packet, bit int) api.Packet {
	return with(p, bit/8, p.Data[bit/8]^(0x80>>(bit%8)))
}

// cut is p with the first bytes of its data alone.
func cut(p api.Packet, count int) api.Packet {
	p.Data = p.Data[:count]
	return p
}

func brief(p api.Packet) string {
	text := ip.Text(p.Src) + " to " + ip.Text(p.Dst) + ": "
	return text + hex.EncodeToString([]byte(p.Data[:min(len(p.Data), 48)]))
}

// isSum: P14.1.
func isSum(t *testing.T, p api.Packet) {
	t.Helper()
	if got, want := port.Sum(p), wantSum(p); got != want {
		t.Errorf("Sum of Proto %d, %d bytes, %s: %04x, want %04x", p.Proto, len(p.Data), brief(p), got, want)
	}
}

// isDecoded: P14.1, P14.2.
func isDecoded(t *testing.T, p api.Packet) {
	t.Helper()
	isSum(t, p)
	h, err := port.Decode(p)
	if want, wantErr := wantDecode(p); h != want || err != wantErr {
		t.Errorf("Decode of Proto %d, %d bytes, %s: %+v, %v, want %+v, %v", p.Proto, len(p.Data), brief(p), h, err, want, wantErr)
	}
	if err != api.OK && h != (api.Head{}) {
		t.Errorf("beside %v: %+v", err, h)
	}
}

// isWrong: P14.2, that error and nothing beside it.
func isWrong(t *testing.T, p api.Packet, want api.Errno) {
	t.Helper()
	isDecoded(t, p)
	if h, err := port.Decode(p); h != (api.Head{}) || err != want {
		t.Errorf("Decode of Proto %d, %d bytes, %s: %+v, %v, want %v", p.Proto, len(p.Data), brief(p), h, err, want)
	}
}

// isTold: P14.2, that head.
func isTold(t *testing.T, p api.Packet, want api.Head) {
	t.Helper()
	isDecoded(t, p)
	if h, err := port.Decode(p); h != want || err != api.OK {
		t.Errorf("Decode of Proto %d, %d bytes, %s: %+v, %v, want %+v", p.Proto, len(p.Data), brief(p), h, err, want)
	}
}

// unlikeAddrs are such as may be and such as may not, of both versions.
func unlikeAddrs() []api.Addr {
	return []api.Addr{
		four(0), four(0x0a000001), four(0xffffffff), four(1 << 32), four(math.MaxUint64), {Hi: 1}, {Hi: 1, Lo: 5},
		six(0, 0), six(0, 1), six(0, 1<<32), six(0xfd00<<48, 1), six(math.MaxUint64, math.MaxUint64), six(0x0123456789abcdef, 0xfedcba9876543210),
	}
}

// pairs are two addresses each that may be, of one version.
func pairs() [][2]api.Addr {
	return [][2]api.Addr{
		{four(0x0a000001), four(0x0a000002)}, {four(0xc0a80101), four(0xfffefdfc)}, {four(0), four(0)},
		{six(0xfd00<<48, 1), six(0xfd00<<48, 2)}, {six(0x0123456789abcdef, 0xfedcba9876543210), six(math.MaxUint64, 1)}, {six(0, 0), six(0, 0)},
	}
}

func protos() []uint8 { return []uint8{api.UDP, api.TCP, api.ICMP, api.ICMP6} }

// fits tells whether a protocol may be of that version.
func fits(proto uint8, v6 bool) bool {
	return proto != api.ICMP && proto != api.ICMP6 || v6 == (proto == api.ICMP6)
}

// whole is a packet of one of the protocols with so many bytes in all, in which nothing
// is wrong, if they are enough for that.
func whole(proto uint8, ends [2]api.Addr, count int) api.Packet {
	b := []byte(stepped(max(count, 20), 37, 5))
	switch proto {
	case api.UDP:
		b[4], b[5] = byte(count>>8), byte(count)
	case api.TCP:
		b[12] = 0x50
	}
	return summed(cut(api.Packet{Src: ends[0], Dst: ends[1], Proto: proto, TTL: 9, Data: string(b)}, count))
}

func TestExamples(t *testing.T) {
	a, b := four(0x0a000001), four(0x0a000002)
	u, err := port.Udp(at(a, 5), at(b, 53), "ab")
	if err != api.OK || u.Data != "\x00\x05\x00\x35\x00\x0a\x8a\x3bab" {
		t.Errorf("Udp: %x, %v", u.Data, err)
	}
	flow := api.Flow{Proto: api.UDP, Src: a, Dst: b, From: 5, To: 53}
	isTold(t, u, api.Head{Flow: flow, Size: 2})
	x, _ := port.Tcp(at(a, 5), at(b, 80), api.SYN, "")
	isTold(t, x, api.Head{Flow: api.Flow{Proto: api.TCP, Src: a, Dst: b, From: 5, To: 80}, Flags: api.SYN})
	e, _ := port.Echo(a, b, 7, true, "x")
	isTold(t, e, api.Head{Flow: api.Flow{Proto: api.ICMP, Src: a, Dst: b, From: 7, To: 7}, Size: 1})
	isWrong(t, turned(u, 79), api.ErrSum)
	isWrong(t, cut(u, 7), api.ErrShort)
	if f := port.Reverse(flow); f != (api.Flow{Proto: api.UDP, Src: b, Dst: a, From: 53, To: 5}) {
		t.Errorf("Reverse: %+v", f)
	}
}

// sent is the packet of these bytes, which a Linux kernel sent from 10.0.0.1, or fd00::1,
// to the next address.
func sent(t *testing.T, text string) api.Packet {
	t.Helper()
	b, err := hex.DecodeString(text)
	p, fault := ip.Decode(string(b))
	if err != nil || fault != api.OK {
		t.Fatal(err, fault)
	}
	return p
}

// TestOfTheWorld: P14.2, P14.3, packets that others made.
func TestOfTheWorld(t *testing.T) {
	a, b, c, d := four(0x0a000001), four(0x0a000002), six(0xfd00<<48, 1), six(0xfd00<<48, 2)
	isSent := func(text string, h api.Head) api.Packet {
		t.Helper()
		p := sent(t, text)
		isTold(t, p, h)
		return p
	}
	isMade := func(p, like api.Packet) {
		t.Helper()
		if p != like {
			t.Errorf("made: %x, sent: %x", p.Data, like.Data)
		}
	}
	p := isSent("4500001fb07c40004011764f0a0000010a00000200050035000b2739616263",
		api.Head{Flow: api.Flow{Proto: api.UDP, Src: a, Dst: b, From: 5, To: 53}, Size: 3})
	made, _ := port.Udp(at(a, 5), at(b, 53), "abc")
	isMade(made, p)
	p = isSent("6002f92b000a1140fd000000000000000000000000000001fd00000000000000000000000000000200050035000aa4396162",
		api.Head{Flow: api.Flow{Proto: api.UDP, Src: c, Dst: d, From: 5, To: 53}, Size: 2})
	made, _ = port.Udp(at(c, 5), at(d, 53), "ab")
	isMade(made, p)
	p = isSent("4500001dd5fa0000400190e30a0000010a000002000087f80007000078",
		api.Head{Flow: api.Flow{Proto: api.ICMP, Src: a, Dst: b, From: 7, To: 7}, Size: 1})
	made, _ = port.Echo(a, b, 7, true, "x")
	isMade(made, p)
	p = isSent("60070bdb00093a40fd000000000000000000000000000001fd00000000000000000000000000000281000cb00007000078",
		api.Head{Flow: api.Flow{Proto: api.ICMP6, Src: c, Dst: d, From: 7, To: 7}, Kind: 129, Size: 1})
	made, _ = port.Echo(c, d, 7, true, "x")
	isMade(made, p)
	isSent("4500003c062a4000400620900a0000010a000002000500503a4e904b00000000a002faf0197d0000020405b40402080a27a52cf9000000000103030a",
		api.Head{Flow: api.Flow{Proto: api.TCP, Src: a, Dst: b, From: 5, To: 80}, Flags: api.SYN})
	isSent("6002b82600280640fd000000000000000000000000000001fd00000000000000000000000000000200050050866a1e9200000000a002fd209d320000020405a00402080abcbb51ac000000000103030a",
		api.Head{Flow: api.Flow{Proto: api.TCP, Src: c, Dst: d, From: 5, To: 80}, Flags: api.SYN})
	isSent("4500002800004000400626ce0a0000010a000002000900090000000000000001501400009bbb0000",
		api.Head{Flow: api.Flow{Proto: api.TCP, Src: a, Dst: b, From: 9, To: 9}, Flags: api.RST | api.ACK})
	isSent("45c00038d671000040018f910a0000010a0000020303fce2000000004500001c00000000401166cf0a0000020a0000010009000900080000",
		api.Head{Flow: api.Flow{Proto: api.ICMP, Src: a, Dst: b}, Kind: 3, Code: 3, Size: 28})
}
