package port_test

import (
	"math/rand"
	"strings"
	"testing"

	"isthmus/api"
	"isthmus/port"
)

// maker makes one kind of packets, as the program does it and as it is wanted, and
// tells the head that it has.
type maker struct {
	name   string
	header int
	make   func(src, dst api.Endpoint, data string) (api.Packet, api.Errno)
	want   func(src, dst api.Endpoint, data string) (api.Packet, api.Errno)
	head   func(src, dst api.Endpoint) api.Head
}

func udpMaker() maker {
	head := func(src, dst api.Endpoint) api.Head {
		return api.Head{Flow: api.Flow{Proto: api.UDP, Src: src.Addr, Dst: dst.Addr, From: src.Port, To: dst.Port}}
	}
	return maker{"Udp", 8, port.Udp, wantUdp, head}
}

func tcpMaker(flags uint8) maker {
	make := func(src, dst api.Endpoint, data string) (api.Packet, api.Errno) {
		return port.Tcp(src, dst, flags, data)
	}
	want := func(src, dst api.Endpoint, data string) (api.Packet, api.Errno) {
		return wantTcp(src, dst, flags, data)
	}
	head := func(src, dst api.Endpoint) api.Head {
		return api.Head{Flow: api.Flow{Proto: api.TCP, Src: src.Addr, Dst: dst.Addr, From: src.Port, To: dst.Port}, Flags: flags}
	}
	return maker{"Tcp", 20, make, want, head}
}

// echoMaker makes echoes whose number is the first port.
func echoMaker(reply bool) maker {
	make := func(src, dst api.Endpoint, data string) (api.Packet, api.Errno) {
		return port.Echo(src.Addr, dst.Addr, src.Port, reply, data)
	}
	want := func(src, dst api.Endpoint, data string) (api.Packet, api.Errno) {
		return wantEcho(src.Addr, dst.Addr, src.Port, reply, data)
	}
	head := func(src, dst api.Endpoint) api.Head {
		h := api.Head{Flow: api.Flow{Proto: api.ICMP, Src: src.Addr, Dst: dst.Addr, From: src.Port, To: src.Port}, Kind: 8}
		switch {
		case src.Addr.V6 && reply:
			h.Flow.Proto, h.Kind = api.ICMP6, 129
		case src.Addr.V6:
			h.Flow.Proto, h.Kind = api.ICMP6, 128
		case reply:
			h.Kind = 0
		}
		return h
	}
	return maker{"Echo", 8, make, want, head}
}

func makers() []maker {
	return []maker{udpMaker(), tcpMaker(0), tcpMaker(api.SYN), tcpMaker(0xff), echoMaker(false), echoMaker(true)}
}

// isMade: P14.3, P14.5, what is made, and what is told of it.
func isMade(t *testing.T, m maker, src, dst api.Endpoint, data string) {
	t.Helper()
	p, err := m.make(src, dst, data)
	if want, wantErr := m.want(src, dst, data); p != want || err != wantErr {
		t.Errorf("%s of %v, %v, %d bytes: %+v, %v, want %+v, %v", m.name, src, dst, len(data), p, err, want, wantErr)
	}
	if err != api.OK {
		if p != (api.Packet{}) {
			t.Errorf("beside %v: %+v", err, p)
		}
		return
	}
	if sum := port.Sum(p); sum != 0 || p.TTL != 64 || p.Data[m.header:] != data {
		t.Errorf("%s of %v, %v: TTL %d, %d bytes, the sum %04x", m.name, src, dst, p.TTL, len(p.Data), sum)
	}
	h := m.head(src, dst)
	h.Size = len(data)
	isTold(t, p, h)
}

// isAnswered: P14.4, P14.5, the other way about the flow is the reverse one.
func isAnswered(t *testing.T, m maker, src, dst api.Endpoint, data string) {
	t.Helper()
	p, _ := m.make(src, dst, data)
	back := m
	if m.name == "Echo" {
		dst.Port = src.Port
		back = echoMaker(true)
	}
	q, _ := back.make(dst, src, data)
	there, err := port.Decode(p)
	again, errBack := port.Decode(q)
	if err != api.OK || errBack != api.OK || again.Flow != port.Reverse(there.Flow) || there.Flow != port.Reverse(again.Flow) {
		t.Errorf("%s: %+v, back: %+v", m.name, there.Flow, again.Flow)
	}
}

// TestMade: P14.3, P14.5, any two addresses, with no data, some, all that may be, and more.
func TestMade(t *testing.T) {
	for _, m := range makers() {
		for _, src := range unlikeAddrs() {
			for _, dst := range unlikeAddrs() {
				for _, n := range []int{0, 1, 2, 1439, 1440, 1441, 1451, 1452, 1453, 1459, 1460, 1461, 1471, 1472, 1473, 1480, 1481, 1499, 1500, 1501, 3000, 65507, 65528, 65536, 70000} {
					isMade(t, m, at(src, 5), at(dst, 53), stepped(n, 7, n))
				}
			}
		}
		for _, ends := range pairs() {
			for n := range 1500 {
				isMade(t, m, at(ends[0], uint16(40503*n)), at(ends[1], uint16(n)), stepped(n, 3, 5*n))
			}
		}
	}
}

// TestBounds: P14.3, the longest data of each kind, and one byte more.
func TestBounds(t *testing.T) {
	for _, m := range makers() {
		for _, ends := range pairs() {
			most := api.MaxPacket - 20 - m.header
			if ends[0].V6 {
				most -= 20
			}
			p, err := m.make(at(ends[0], 1), at(ends[1], 2), stepped(most, 1, 1))
			if err != api.OK || len(p.Data) != most+m.header {
				t.Errorf("%s, %d bytes: %v, %d bytes", m.name, most, err, len(p.Data))
			}
			for _, n := range []int{most + 1, most + 8, 1 << 16, 1<<16 + most, 1 << 24} {
				if p, err := m.make(at(ends[0], 1), at(ends[1], 2), strings.Repeat("x", n)); p != (api.Packet{}) || err != api.ErrLong {
					t.Errorf("%s, %d bytes: %v, %d bytes", m.name, n, err, len(p.Data))
				}
			}
			other := ends[1]
			other.V6 = !other.V6
			for _, n := range []int{0, most + 1, 1 << 24} {
				if p, err := m.make(at(ends[0], 1), at(other, 2), strings.Repeat("x", n)); p != (api.Packet{}) || err != api.ErrArg {
					t.Errorf("%s of two versions, %d bytes: %v", m.name, n, err)
				}
			}
		}
	}
}

// TestLongIsNotCopied: R1, data of which no packet may be is not gone through.
func TestLongIsNotCopied(t *testing.T) {
	data := strings.Repeat("x", 1<<26)
	for _, m := range makers() {
		for range 2000 {
			if _, err := m.make(at(four(1), 1), at(four(2), 2), data); err != api.ErrLong {
				t.Fatal(m.name, err)
			}
		}
	}
}

// TestNumbers: P14.3, P14.5, each port, number of an echo, and all flags.
func TestNumbers(t *testing.T) {
	for _, m := range makers() {
		for _, ends := range pairs() {
			for n := range 1 << 16 {
				src, dst := at(ends[0], uint16(n)), at(ends[1], uint16(n)*40503+9)
				p, err := m.make(src, dst, "x")
				want := m.head(src, dst)
				want.Size = 1
				if h, fault := port.Decode(p); err != api.OK || fault != api.OK || h != want {
					t.Errorf("%s, %d: %v, %v, %+v", m.name, n, err, fault, h)
				}
			}
		}
	}
	for flags := range 256 {
		for _, ends := range pairs() {
			isMade(t, tcpMaker(uint8(flags)), at(ends[0], 1), at(ends[1], 2), "ab")
		}
	}
}

// TestBytes: P14.3, the bytes of each kind, written out.
func TestBytes(t *testing.T) {
	a, b := four(0x0a000001), four(0x0a000002)
	c, d := six(0xfd00<<48, 1), six(0xfd00<<48, 2)
	udp, _ := port.Udp(at(a, 0x1234), at(b, 0x5678), "abc")
	tcp, _ := port.Tcp(at(a, 0x1234), at(b, 0x5678), api.SYN|api.ACK, "abc")
	ask, _ := port.Echo(a, b, 0x1234, false, "abc")
	reply, _ := port.Echo(a, b, 0x1234, true, "abc")
	ask6, _ := port.Echo(c, d, 0x1234, false, "abc")
	reply6, _ := port.Echo(c, d, 0x1234, true, "abc")
	for _, k := range []struct {
		p             api.Packet
		proto         uint8
		ahead, behind string
	}{
		{udp, 17, "\x12\x34\x56\x78\x00\x0b", "abc"},
		{tcp, 6, "\x12\x34\x56\x78\x00\x00\x00\x00\x00\x00\x00\x00\x50\x12\xff\xff", "\x00\x00abc"},
		{ask, 1, "\x08\x00", "\x12\x34\x00\x00abc"},
		{reply, 1, "\x00\x00", "\x12\x34\x00\x00abc"},
		{ask6, 58, "\x80\x00", "\x12\x34\x00\x00abc"},
		{reply6, 58, "\x81\x00", "\x12\x34\x00\x00abc"},
	} {
		n := len(k.ahead)
		if k.p.Proto != k.proto || k.p.TTL != 64 || len(k.p.Data) != n+2+len(k.behind) || k.p.Data[:n] != k.ahead || k.p.Data[n+2:] != k.behind {
			t.Errorf("Proto %d, TTL %d: %x", k.p.Proto, k.p.TTL, k.p.Data)
		}
	}
}

// TestSumsOfNought: P14.3, data that makes the sum 0: of UDP it is told as ff ff, of all
// others as it is.
func TestSumsOfNought(t *testing.T) {
	for _, m := range makers() {
		for _, ends := range pairs() {
			for _, tail := range []string{"", "x", "abcd"} {
				src, dst := at(ends[0], 7), at(ends[1], 9)
				p, _ := m.make(src, dst, "\x00\x00"+tail)
				place := sumPlace(p.Proto)
				// What is told as the sum is what is missing for a sum of 0.
				data := p.Data[place:place+2] + tail
				p, err := m.make(src, dst, data)
				want := uint16(0)
				if p.Proto == api.UDP {
					want = 0xffff
				}
				if err != api.OK || number(p.Data, place) != want {
					t.Errorf("%s: %v, the sum %04x", m.name, err, number(p.Data, place))
				}
				isMade(t, m, src, dst, data)
			}
		}
	}
	// Nothing but noughts has the sum ff ff, which is 0 with it.
	p, _ := port.Echo(four(1), four(2), 0, true, "\x00\x00\x00")
	if p.Data != "\x00\x00\xff\xff\x00\x00\x00\x00\x00\x00\x00" {
		t.Errorf("noughts: %x", p.Data)
	}
	for _, ends := range pairs() {
		for n := range 1 << 16 {
			p, err := port.Udp(at(ends[0], uint16(n)), at(ends[1], 9), "")
			if err != api.OK || number(p.Data, 6) == 0 {
				t.Errorf("port %d: %v, %x", n, err, p.Data)
			}
		}
	}
}

// TestReverse: P14.4, P14.5, flows of any kind.
func TestReverse(t *testing.T) {
	r := rand.New(rand.NewSource(4))
	for _, src := range unlikeAddrs() {
		for _, dst := range unlikeAddrs() {
			for range 20 {
				f := api.Flow{Proto: uint8(r.Int()), Src: src, Dst: dst, From: uint16(r.Int()), To: uint16(r.Int())}
				back := port.Reverse(f)
				if want := (api.Flow{Proto: f.Proto, Src: dst, Dst: src, From: f.To, To: f.From}); back != want {
					t.Errorf("%+v: %+v", f, back)
				}
				if again := port.Reverse(back); again != f {
					t.Errorf("%+v, and back: %+v", f, again)
				}
			}
		}
	}
	if f := port.Reverse(api.Flow{}); f != (api.Flow{}) {
		t.Errorf("of nothing: %+v", f)
	}
}

// TestAnswers: P14.5, what goes there and what comes back.
func TestAnswers(t *testing.T) {
	for _, m := range makers() {
		for _, ends := range pairs() {
			for n := range 200 {
				isAnswered(t, m, at(ends[0], uint16(n*331)), at(ends[1], uint16(n*77)), stepped(n, 1, n))
			}
		}
	}
}

// TestTurned: P14.2, P14.3, each byte of what was made, in each way: that is found out by
// the sum, or ahead of it, but where UDP of IPv4 tells no sum then. Of an address it is
// found out, too, if the sum is of it.
func TestTurned(t *testing.T) {
	for _, m := range makers() {
		for _, ends := range pairs() {
			p, _ := m.make(at(ends[0], 0x0123), at(ends[1], 0x4567), "some data")
			for place := range p.Data {
				for b := range 256 {
					q := with(p, place, byte(b))
					if q == p {
						continue
					}
					isDecoded(t, q)
					h, err := port.Decode(q)
					unsummed := p.Proto == api.UDP && !p.Src.V6 && number(q.Data, 6) == 0
					if unsummed != (err == api.OK) || err != api.OK && h != (api.Head{}) {
						t.Errorf("%s, byte %d is %02x: %+v, %v", m.name, place, b, h, err)
					}
				}
			}
			want := api.ErrSum
			if p.Proto == api.ICMP {
				want = api.OK
			}
			for bit := range 32 {
				q := p
				q.Src.Lo ^= 1 << bit
				isWrongUnless(t, q, want, want == api.OK)
				q = p
				q.Dst.Lo ^= 1 << bit
				isWrongUnless(t, q, want, want == api.OK)
			}
		}
	}
}

// TestAgain: R6, the same answer whenever it is asked for.
func TestAgain(t *testing.T) {
	for _, m := range makers() {
		src, dst := at(four(5), 6), at(four(7), 8)
		first, _ := m.make(src, dst, "abc")
		told, _ := port.Decode(first)
		for _, other := range makers() {
			q, _ := other.make(dst, src, "other")
			port.Decode(q)
			again, _ := m.make(src, dst, "abc")
			if h, _ := port.Decode(again); again != first || h != told {
				t.Errorf("%s: %+v, then %+v", m.name, first, again)
			}
		}
	}
}
