package port_test

import (
	"math/rand"
	"testing"

	"isthmus/api"
	"isthmus/port"
)

// TestSum: P14.1, every Proto of both versions, with no byte, one, odd and even counts.
func TestSum(t *testing.T) {
	r := rand.New(rand.NewSource(1))
	for _, ends := range pairs() {
		for proto := range 256 {
			for _, n := range []int{0, 1, 2, 3, 7, 8, 19, 20, 255, 256, 257, 1459, 1460} {
				p := api.Packet{Src: ends[0], Dst: ends[1], Proto: uint8(proto), TTL: uint8(r.Int()), Data: some(r, n)}
				isSum(t, p)
				p.Data = stepped(n, 0, 0xff)
				isSum(t, p)
			}
		}
		for _, proto := range append(protos(), 0, 255) {
			for n := range 1500 {
				isSum(t, api.Packet{Src: ends[0], Dst: ends[1], Proto: proto, Data: some(r, n)})
			}
		}
	}
	for proto, want := range map[uint8]uint16{
		api.UDP: 0xebeb, api.TCP: 0xebf6, api.ICMP6: 0xebc2, api.ICMP: 0xffff, 0: 0xffff,
	} {
		if sum := port.Sum(api.Packet{Src: four(0x0a000001), Dst: four(0x0a000002), Proto: proto}); sum != want {
			t.Errorf("Proto %d, no byte: %04x, want %04x", proto, sum, want)
		}
	}
}

// TestRefused: P14.1, P14.2, packets that may not be, each pair of addresses, at both
// bounds of lengths and beyond.
func TestRefused(t *testing.T) {
	for _, src := range unlikeAddrs() {
		for _, dst := range unlikeAddrs() {
			for _, proto := range append(protos(), 0, 200) {
				for _, n := range []int{0, 7, 8, 20, 1460, 1461, 1480, 1481, 1500, 1501, 65536, 65544} {
					p := api.Packet{Src: src, Dst: dst, Proto: proto, Data: stepped(n, 3, n)}
					isDecoded(t, p)
					if err := wantMay(p); err != api.OK {
						isWrong(t, p, err)
						if sum := port.Sum(p); sum != 0 {
							t.Errorf("Sum of what may not be: %04x", sum)
						}
					}
				}
			}
		}
	}
	isWrong(t, api.Packet{Src: four(1), Dst: six(0, 1), Data: stepped(1481, 0, 0)}, api.ErrArg)
	isWrong(t, api.Packet{Data: stepped(1481, 0, 0)}, api.ErrLong)
	isWrong(t, api.Packet{Src: six(0, 1), Dst: six(0, 1), Data: stepped(1461, 0, 0)}, api.ErrLong)
}

// TestEveryLength: P14.2, each protocol of both versions with each count of bytes.
func TestEveryLength(t *testing.T) {
	for _, ends := range pairs() {
		for _, proto := range protos() {
			least := 8
			if proto == api.TCP {
				least = 20
			}
			for n := range 1490 {
				p := whole(proto, ends, n)
				switch {
				case wantMay(p) != api.OK:
					isWrong(t, p, api.ErrLong)
				case !fits(proto, p.Src.V6):
					isWrong(t, p, api.ErrForm)
				case n < least:
					isWrong(t, p, api.ErrShort)
				default:
					isDecoded(t, p)
					if h, err := port.Decode(p); err != api.OK || h.Size != n-least {
						t.Errorf("Proto %d, %d bytes: %+v, %v", proto, n, h, err)
					}
				}
			}
			p := whole(proto, ends, 60)
			for n := range 60 {
				isDecoded(t, cut(p, n))
				isDecoded(t, summed(cut(p, n)))
			}
		}
	}
}

// TestToldLength: P14.2, each length that UDP may tell.
func TestToldLength(t *testing.T) {
	for i, ends := range pairs() {
		for _, count := range [][]int{{8, 1460}, {9}, {300}}[i%3] {
			p := whole(api.UDP, ends, count)
			for n := range 1 << 16 {
				q := summed(with(p, 4, byte(n>>8), byte(n)))
				_, err := port.Decode(q)
				if n == count && err != api.OK || n != count && err != api.ErrForm {
					t.Errorf("%d bytes, told as %d: %v", count, n, err)
				}
			}
			for _, n := range []int{0, 8, count - 8, count - 1, count + 1, count + 8, count + 20} {
				isWrongUnless(t, summed(with(p, 4, byte(n>>8), byte(n))), api.ErrForm, n == count)
				isWrongUnless(t, with(p, 4, byte(n>>8), byte(n)), api.ErrForm, n == count)
			}
		}
	}
}

// isWrongUnless: P14.2, that error, unless it is said that there is none.
func isWrongUnless(t *testing.T, p api.Packet, want api.Errno, right bool) {
	t.Helper()
	if !right {
		isWrong(t, p, want)
		return
	}
	isDecoded(t, p)
	if _, err := port.Decode(p); err != api.OK {
		t.Errorf("Decode of Proto %d, %d bytes, %s: %v", p.Proto, len(p.Data), brief(p), err)
	}
}

// TestOffsets: P14.2, each byte 12 of TCP, with fewer bytes than it tells, as many, and more.
func TestOffsets(t *testing.T) {
	for _, ends := range pairs() {
		for n := 20; n <= 70; n++ {
			for b := range 256 {
				p := summed(with(whole(api.TCP, ends, n), 12, byte(b)))
				header := 4 * (b >> 4)
				isWrongUnless(t, p, api.ErrForm, header >= 20 && header <= n)
				if h, err := port.Decode(p); err == api.OK && h.Size != n-header {
					t.Errorf("%d bytes, byte 12 is %02x: Size %d", n, b, h.Size)
				}
			}
		}
	}
}

// TestWrongSums: P14.2, each sum but the right one, and each bit of a packet turned.
func TestWrongSums(t *testing.T) {
	for _, ends := range pairs() {
		for _, proto := range protos() {
			if !fits(proto, ends[0].V6) {
				continue
			}
			for _, n := range []int{20, 33} {
				p := whole(proto, ends, n)
				place := sumPlace(proto)
				for sum := range 1 << 16 {
					_, err := port.Decode(with(p, place, byte(sum>>8), byte(sum)))
					right := sum == int(number(p.Data, place)) || proto == api.UDP && sum == 0 && !ends[0].V6
					if right && err != api.OK || !right && err != api.ErrSum {
						t.Errorf("Proto %d, %d bytes, the sum %04x: %v", proto, n, sum, err)
					}
				}
				for bit := range 8 * n {
					isDecoded(t, turned(p, bit))
					if _, err := port.Decode(turned(p, bit)); err == api.OK {
						t.Errorf("Proto %d, %d bytes, bit %d turned: no error", proto, n, bit)
					}
					isDecoded(t, summed(turned(p, bit)))
				}
			}
		}
	}
}

// TestNoSum: P14.2, UDP whose bytes 6 and 7 are 0 tells no sum, but of IPv6 must; one
// that is 0 alone tells one; nothing else goes without a sum.
func TestNoSum(t *testing.T) {
	for _, ends := range pairs() {
		for _, n := range []int{8, 9, 50} {
			p := with(whole(api.UDP, ends, n), 6, 0, 0)
			isWrongUnless(t, p, api.ErrSum, !p.Src.V6)
			for _, sum := range []byte{1, 0x80, 0xff} {
				isDecoded(t, with(p, 6, sum, 0))
				isDecoded(t, with(p, 6, 0, sum))
			}
			isWrong(t, with(p, 5, p.Data[5]+1), api.ErrForm)
			for _, proto := range []uint8{api.TCP, api.ICMP, api.ICMP6} {
				q := whole(proto, ends, n+20)
				q = with(q, sumPlace(proto), 0, 0)
				isDecoded(t, q)
				if _, err := port.Decode(q); err == api.OK {
					t.Errorf("Proto %d without a sum: %v", proto, err)
				}
			}
		}
	}
}

// TestSumsOfOnes: P14.2, of what adds up to 0 0 the sum ff ff is right as well.
func TestSumsOfOnes(t *testing.T) {
	for _, ends := range pairs() {
		for _, proto := range protos() {
			if !fits(proto, ends[0].V6) {
				continue
			}
			p := whole(proto, ends, 24)
			p = with(p, sumPlace(proto), 0, 0)
			rest := wantSum(with(p, 22, 0, 0))
			p = with(p, 22, byte(rest>>8), byte(rest))
			if sum := port.Sum(p); sum != 0 {
				t.Fatalf("the sum %04x", sum)
			}
			isWrongUnless(t, p, api.OK, true)
			isWrongUnless(t, with(p, sumPlace(proto), 0xff, 0xff), api.OK, true)
			isWrong(t, with(p, sumPlace(proto), 0xff, 0xfe), api.ErrSum)
		}
	}
}

// TestOtherVersion: P14.2, ICMP of IPv6 and ICMP6 of IPv4, with whatever bytes.
func TestOtherVersion(t *testing.T) {
	for _, ends := range pairs() {
		proto := api.ICMP
		if !ends[0].V6 {
			proto = api.ICMP6
		}
		for n := range 100 {
			p := whole(proto, ends, n)
			isWrong(t, p, api.ErrForm)
			if n > 0 {
				for _, kind := range []byte{0, 8, 128, 129, 3} {
					isWrong(t, summed(with(p, 0, kind)), api.ErrForm)
				}
			}
		}
	}
}

// TestKinds: P14.2, each kind and code, the numbers of echoes, which nothing else has.
func TestKinds(t *testing.T) {
	for _, ends := range pairs() {
		proto, echoes := api.ICMP, [2]int{8, 0}
		if ends[0].V6 {
			proto, echoes = api.ICMP6, [2]int{128, 129}
		}
		for kind := range 256 {
			for code := range 256 {
				p := summed(with(whole(proto, ends, 8+code%5), 0, byte(kind), byte(code), 0, 0, 0xab, byte(code)))
				want := api.Head{Flow: api.Flow{Proto: proto, Src: ends[0], Dst: ends[1]}, Kind: uint8(kind), Code: uint8(code), Size: code % 5}
				if kind == echoes[0] || kind == echoes[1] {
					want.Flow.From = 0xab00 | uint16(code)
					want.Flow.To = want.Flow.From
				}
				isTold(t, p, want)
			}
		}
	}
}

// TestPorts: P14.2, ports and flags, byte by byte.
func TestPorts(t *testing.T) {
	for _, ends := range pairs() {
		for _, proto := range []uint8{api.UDP, api.TCP} {
			for n := range 1 << 16 {
				other := uint16(n)*40503 + 7
				p := summed(with(whole(proto, ends, 20), 0, byte(n>>8), byte(n), byte(other>>8), byte(other)))
				want := api.Head{Flow: api.Flow{Proto: proto, Src: ends[0], Dst: ends[1], From: uint16(n), To: other}}
				if want.Size = 12; proto == api.TCP {
					p = summed(with(p, 13, byte(n)))
					want.Flags, want.Size = uint8(n), 0
				}
				if h, err := port.Decode(p); h != want || err != api.OK {
					t.Errorf("%s: %+v, %v, want %+v", brief(p), h, err, want)
				}
			}
		}
	}
}

// TestOthers: P14.2, any other Proto: nothing is wrong, whatever it carries.
func TestOthers(t *testing.T) {
	r := rand.New(rand.NewSource(2))
	for _, ends := range pairs() {
		for n := range 256 {
			proto := uint8(n)
			if proto == api.UDP || proto == api.TCP || proto == api.ICMP || proto == api.ICMP6 {
				continue
			}
			for _, count := range []int{0, 1, 7, 8, 20, 50, 1460} {
				p := api.Packet{Src: ends[0], Dst: ends[1], Proto: proto, TTL: 5, Data: some(r, count)}
				isTold(t, p, api.Head{Flow: api.Flow{Proto: proto, Src: ends[0], Dst: ends[1]}, Size: count})
			}
		}
	}
}

// fault is a way to make a packet wrong, and what is told of it.
type fault struct {
	err  api.Errno
	make func(p api.Packet) api.Packet
}

// isFirst makes a packet wrong in each choice of these ways, which stand in the order in
// which they are told; the changes are made from the last way to the first one.
func isFirst(t *testing.T, p api.Packet, ways ...fault) {
	t.Helper()
	for choice := range 1 << len(ways) {
		wrong, want := p, api.OK
		for i := len(ways) - 1; i >= 0; i-- {
			if choice>>i&1 == 1 {
				wrong, want = ways[i].make(wrong), ways[i].err
			}
		}
		isWrongUnless(t, wrong, want, want == api.OK)
	}
}

// keptSum makes a change such that the sum stays as right or as wrong as it was.
func keptSum(change func(p api.Packet) api.Packet) func(p api.Packet) api.Packet {
	return func(p api.Packet) api.Packet {
		was := wantSum(p)
		if p = summed(change(p)); was != 0 {
			p = turned(p, 8*sumPlace(p.Proto)+3)
		}
		return p
	}
}

// TestFaultsAtOnce: P14.2, R2, all choices of faults at once.
func TestFaultsAtOnce(t *testing.T) {
	other := fault{api.ErrArg, func(p api.Packet) api.Packet { p.Dst.V6 = !p.Dst.V6; return p }}
	long := fault{api.ErrLong, func(p api.Packet) api.Packet { p.Data += stepped(1500, 0, 0); return p }}
	short := func(n int) fault { return fault{api.ErrShort, func(p api.Packet) api.Packet { return cut(p, n) }} }
	wrongSum := fault{api.ErrSum, func(p api.Packet) api.Packet { return turned(p, 8*sumPlace(p.Proto)+9) }}
	length := fault{api.ErrForm, keptSum(func(p api.Packet) api.Packet { return with(p, 4, 0, 4) })}
	low := fault{api.ErrForm, keptSum(func(p api.Packet) api.Packet { return with(p, 12, 0x4f) })}
	high := fault{api.ErrForm, keptSum(func(p api.Packet) api.Packet { return with(p, 12, 0xb0) })}
	version := fault{api.ErrForm, func(p api.Packet) api.Packet { p.Proto = api.ICMP + api.ICMP6 - p.Proto; return p }}
	for _, ends := range pairs() {
		isFirst(t, whole(api.UDP, ends, 40), other, long, length, wrongSum)
		isFirst(t, whole(api.TCP, ends, 40), other, long, low, wrongSum)
		isFirst(t, whole(api.TCP, ends, 40), other, long, high, wrongSum)
		isFirst(t, whole(api.UDP, ends, 40), other, short(7), length, wrongSum)
		isFirst(t, whole(api.TCP, ends, 40), other, short(19), low, wrongSum)
		isFirst(t, whole(api.TCP, ends, 40), other, short(19), high, wrongSum)
		proto := api.ICMP
		if ends[0].V6 {
			proto = api.ICMP6
		}
		isFirst(t, whole(proto, ends, 40), other, version, short(7), wrongSum)
		isFirst(t, whole(proto, ends, 40), other, long, version, wrongSum)
	}
}

// TestAnyBytes: P14.1, P14.2, packets that are drawn, most of them nearly right.
func TestAnyBytes(t *testing.T) {
	r := rand.New(rand.NewSource(3))
	for range 300000 {
		ends := pairs()[r.Intn(6)]
		proto := append(protos(), uint8(r.Int()))[r.Intn(5)]
		n := r.Intn(48)
		p := api.Packet{Src: ends[0], Dst: ends[1], Proto: proto, TTL: uint8(r.Int()), Data: some(r, n)}
		if n > 13 && r.Intn(8) > 0 {
			p = with(p, 4, 0, byte(n))
			p = with(p, 12, byte(r.Intn(13))<<4)
			p = with(p, 0, []byte{0, 8, 128, 129, byte(r.Int())}[r.Intn(5)])
		}
		if r.Intn(4) > 0 {
			p = summed(p)
		}
		isDecoded(t, p)
	}
}
