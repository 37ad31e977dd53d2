package ip_test

import (
	"encoding/binary"
	"math"
	"math/rand"
	"slices"
	"strings"
	"testing"

	"isthmus/api"
	"isthmus/ip"
)

// stepped are so many bytes, from one on by a step.
func stepped(count, step, from int) string {
	b := make([]byte, count)
	for i := range b {
		b[i] = byte(i*step + from)
	}
	return string(b)
}

// some are so many bytes.
func some(r *rand.Rand, count int) string {
	b := make([]byte, count)
	r.Read(b)
	return string(b)
}

func four(lo uint64) api.Addr { return api.Addr{Lo: lo} }

func six(hi, lo uint64) api.Addr { return api.Addr{V6: true, Hi: hi, Lo: lo} }

// with is s with other bytes from a place on.
func with(s string, at int, bytes ...byte) string {
	return s[:at] + string(bytes) + s[at+len(bytes):]
}

// turned is s with a bit turned, of all its bits.
func turned(s string, bit int) string {
	return with(s, bit/8, s[bit/8]^(0x80>>(bit%8)))
}

func encoded(t *testing.T, p api.Packet) string {
	t.Helper()
	s, err := ip.Encode(p)
	if err != api.OK {
		t.Fatalf("%+v: %v", p, err)
	}
	return s
}

// isSum: P13.1.
func isSum(t *testing.T, s string) {
	t.Helper()
	if got, want := ip.Sum(s), wantSum(s); got != want {
		t.Errorf("Sum of %d bytes %x: %04x, want %04x", len(s), s[:min(len(s), 20)], got, want)
	}
}

// isPacket: P13.1, P13.5, what a packet is told by May and Encode, and Decode of that.
func isPacket(t *testing.T, p api.Packet) {
	t.Helper()
	want := wantMay(p)
	if err := ip.May(p); err != want {
		t.Errorf("May(%+v): %v, want %v", p, err, want)
	}
	s, err := ip.Encode(p)
	if want != api.OK {
		if s != "" || err != want {
			t.Errorf("Encode(%+v): %x, %v, want %v", p, s, err, want)
		}
		return
	}
	if s != wantBytes(p) || err != api.OK {
		t.Errorf("Encode(%+v): %x, %v, want %x", p, s, err, wantBytes(p))
	}
	isDecoded(t, s)
	q, err := ip.Decode(s)
	if extra := p.Src.V6 && slices.Contains(extras(), p.Proto); extra && err != api.ErrExtra || !extra && (q != p || err != api.OK) {
		t.Errorf("%+v as bytes, and back: %+v, %v", p, q, err)
	}
}

// isDecoded: P13.2, and P13.5 of the bytes that it says.
func isDecoded(t *testing.T, s string) {
	t.Helper()
	p, err := ip.Decode(s)
	if q, want := wantDecode(s); p != q || err != want {
		t.Errorf("Decode of %d bytes %x: %+v, %v, want %+v, %v", len(s), s[:min(len(s), 48)], p, err, q, want)
	}
	if err != api.OK {
		if p != (api.Packet{}) {
			t.Errorf("beside %v: %+v", err, p)
		}
		return
	}
	again, err := ip.Encode(p)
	plain := s[:4] == "\x60\x00\x00\x00"
	if s[0] == 0x45 {
		plain = s[1] == 0 && s[4:8] == "\x00\x00\x00\x00" && s[10:12] != "\xff\xff"
	}
	if err != api.OK || len(again) != len(s) || plain != (again == s) {
		t.Errorf("%x, as a packet, and back: %x, %v", s, again, err)
	}
}

// extras are the numbers of headers that are not taken.
func extras() []uint8 { return []uint8{0, 43, 44, 50, 51, 60} }

func TestPacketExamples(t *testing.T) {
	if n := ip.Sum("\x00\x01\xf2\x03\xf4\xf5\xf6\xf7"); n != 0x220d {
		t.Errorf("Sum: %04x", n)
	}
	p := api.Packet{Src: four(0x0a000001), Dst: four(0x0a000002), Proto: api.UDP, TTL: 64, Data: "ab"}
	if s := encoded(t, p); s != "\x45\x00\x00\x16\x00\x00\x00\x00\x40\x11\x66\xd5\x0a\x00\x00\x01\x0a\x00\x00\x02\x61\x62" {
		t.Errorf("Encode: %x", s)
	}
	if _, err := ip.Decode("\x55" + strings.Repeat("\x00", 19)); err != api.ErrVersion {
		t.Errorf("version 5: %v", err)
	}
	piece := summed(with(encoded(t, p), 6, 0x20, 0x00))
	if _, err := ip.Decode(piece); err != api.ErrPiece {
		t.Errorf("a piece: %v", err)
	}
	p = api.Packet{Src: six(0xfd00<<48, 1), Dst: six(0xfd00<<48, 2), Proto: api.TCP, TTL: 9, Data: "abc"}
	want := "\x60\x00\x00\x00\x00\x03\x06\x09" + "\xfd" + strings.Repeat("\x00", 14) + "\x01" + "\xfd" + strings.Repeat("\x00", 14) + "\x02" + "abc"
	if s := encoded(t, p); s != want {
		t.Errorf("Encode: %x", s)
	}
}

// TestSum: no byte, one, two, odd and even counts, sums at and beyond 16 bits.
func TestSum(t *testing.T) {
	for s, want := range map[string]uint16{
		"": 0xffff, "\x00": 0xffff, "\x01": 0xfeff, "\xff": 0x00ff, "\x00\x00": 0xffff, "\x00\x00\x00": 0xffff, "\x00\x01": 0xfffe, "\xff\xff": 0,
		"\xff\xff\x00\x00": 0, "\xff\xff\x00\x01": 0xfffe, "\xff\xff\xff\xff": 0, "\xff\xff\xff\xff\xff\xff": 0, "\xff\xfe\x00\x01": 0, "\xff\xfe\x00\x02": 0xfffe,
		"\x80\x00\x80\x00": 0xfffe, "\xff\xff\xff": 0x00ff, "\x00\xff\x01": 0xfe00, "\x12\x34\x56": 0x97cb,
	} {
		if got := ip.Sum(s); got != want {
			t.Errorf("Sum(%x): %04x, want %04x", s, got, want)
		}
	}
	for a := range 1 << 16 {
		pair := string([]byte{byte(a >> 8), byte(a)})
		for _, s := range []string{pair, pair + "\x00", pair + "\x01", pair + "\xff", pair + "\xff\xff", "\x00\x01" + pair, pair + pair, pair + pair + pair} {
			isSum(t, s)
		}
	}
	r := rand.New(rand.NewSource(1))
	for n := range 1600 {
		isSum(t, some(r, n))
		isSum(t, strings.Repeat("\x00", n))
		isSum(t, strings.Repeat("\xff", n))
		isSum(t, strings.Repeat("\x80\x00\x7f", n)[:n])
	}
	for _, n := range []int{1 << 16, 1<<16 + 1, 1<<17 - 1, 1 << 17, 1<<17 + 1, 1<<17 + 2, 1<<20 - 1, 1 << 20} {
		isSum(t, strings.Repeat("\xff", n))
		isSum(t, stepped(n, 7, n))
	}
}

// addrs are such as may be and such as may not, of both versions.
func addrs() []api.Addr {
	return []api.Addr{
		four(0), four(1), four(0x0a000001), four(0x7fffffff), four(0x80000000), four(0xfffffffe), four(0xffffffff),
		four(1 << 32), four(1<<32 + 1), four(1 << 63), four(math.MaxUint64), {Hi: 1}, {Hi: 1, Lo: 5}, {Hi: 1 << 63}, {Hi: math.MaxUint64, Lo: math.MaxUint64},
		six(0, 0), six(0, 1), six(0, 0xffffffff), six(0, 1<<32), six(1, 0), six(0xfd00<<48, 1), six(1<<63, 1<<63), six(math.MaxUint64, math.MaxUint64), six(0x0123456789abcdef, 0xfedcba9876543210),
	}
}

// TestMay: P13.1, any two addresses, with data that may be, at both bounds and beyond.
func TestMay(t *testing.T) {
	for _, src := range addrs() {
		for _, dst := range addrs() {
			for _, n := range []int{0, 1, 1459, 1460, 1461, 1479, 1480, 1481, 1499, 1500, 1501, 65515, 65516, 65536, 65556} {
				isPacket(t, api.Packet{Src: src, Dst: dst, Proto: api.ICMP, TTL: 1, Data: stepped(n, 3, n)})
			}
		}
	}
	for _, c := range []struct {
		p    api.Packet
		want api.Errno
	}{
		{api.Packet{}, api.OK},
		{api.Packet{Src: four(1), Dst: six(0, 1)}, api.ErrArg},
		{api.Packet{Src: six(0, 1), Dst: four(1)}, api.ErrArg},
		{api.Packet{Src: four(1), Dst: four(1 << 32)}, api.ErrArg},
		{api.Packet{Src: api.Addr{Hi: 1}, Dst: four(1)}, api.ErrArg},
		{api.Packet{Data: stepped(1480, 1, 0)}, api.OK},
		{api.Packet{Data: stepped(1481, 1, 0)}, api.ErrLong},
		{api.Packet{Src: six(0, 0), Dst: six(0, 0), Data: stepped(1460, 1, 0)}, api.OK},
		{api.Packet{Src: six(0, 0), Dst: six(0, 0), Data: stepped(1461, 1, 0)}, api.ErrLong},
		{api.Packet{Src: four(1), Dst: six(0, 1), Data: stepped(1501, 1, 0)}, api.ErrArg},
	} {
		if err := ip.May(c.p); err != c.want {
			t.Errorf("%v, %v, %d bytes: %v, want %v", c.p.Src, c.p.Dst, len(c.p.Data), err, c.want)
		}
	}
	if api.MaxPacket != 1500 {
		t.Errorf("a bound of %d", api.MaxPacket)
	}
}

// TestPackets: P13.1, P13.5, packets with data of every length, every Proto and TTL.
func TestPackets(t *testing.T) {
	r := rand.New(rand.NewSource(2))
	for n := range 1520 {
		isPacket(t, api.Packet{Src: four(r.Uint64() >> 32), Dst: four(r.Uint64() >> 32), Proto: uint8(n), TTL: uint8(r.Int()), Data: some(r, n)})
		isPacket(t, api.Packet{Src: six(r.Uint64(), r.Uint64()), Dst: six(r.Uint64(), r.Uint64()), Proto: uint8(n), TTL: uint8(r.Int()), Data: some(r, n)})
	}
	for x := range 256 {
		for y := range 256 {
			isPacket(t, api.Packet{Src: four(0x01020304), Dst: four(0xf1f2f3f4), Proto: uint8(x), TTL: uint8(y)})
			isPacket(t, api.Packet{Src: six(1, 2), Dst: six(3, 4), Proto: uint8(x), TTL: uint8(y), Data: "x"})
		}
	}
}

// packets are some of both versions, without data, with little, and with all that may be.
func packets() []api.Packet {
	var out []api.Packet
	for _, n := range []int{0, 1, 2, 100, 1459, 1460} {
		out = append(out,
			api.Packet{Src: four(0x0a000001), Dst: four(0xc0a80102), Proto: api.TCP, TTL: 64, Data: stepped(n, 5, 1)},
			api.Packet{Src: four(0xffffffff), Dst: four(0), Proto: 0, TTL: 0, Data: stepped(n+20, 5, 1)},
			api.Packet{Src: six(0xfd00<<48, 1), Dst: six(0xfe80<<48, 0x1234567890abcdef), Proto: api.ICMP6, TTL: 255, Data: stepped(n, 5, 1)})
	}
	return out
}

// TestEveryLength: P13.2, what is cut anywhere, and what has more behind it.
func TestEveryLength(t *testing.T) {
	for _, first := range []byte{0x00, 0x45, 0x46, 0x55, 0x60, 0x6f, 0xff} {
		for n := range 1600 {
			isDecoded(t, with(stepped(n+1, 0, 0), 0, first)[:n])
			isDecoded(t, with(stepped(n+1, 7, 3), 0, first)[:n])
			body := string([]byte{first, 0, byte(n >> 8), byte(n), byte((n - 40) >> 8), byte(n - 40)}) + stepped(n, 0, 17)
			isDecoded(t, body[:n])
		}
	}
	for _, n := range []int{1501, 1502, 3000, 65536, 65536 + 20, 1 << 20} {
		for _, first := range []byte{0x00, 0x45, 0x60, 0xff} {
			if p, err := ip.Decode(with(stepped(n, 0, 0), 0, first)); p != (api.Packet{}) || err != api.ErrLong {
				t.Errorf("%d bytes: %v, %v", n, p, err)
			}
		}
	}
	for _, p := range packets() {
		s := encoded(t, p)
		for n := range s {
			isDecoded(t, s[:n])
		}
		isDecoded(t, s+"\x00")
		isDecoded(t, s+s)
		isDecoded(t, s+stepped(1500-len(s), 1, 0))
		isDecoded(t, s+stepped(1501-len(s), 1, 0))
	}
}

// TestFirstByte: P13.2, every first byte, with a sum that is right and without.
func TestFirstByte(t *testing.T) {
	for b := range 256 {
		isDecoded(t, string([]byte{byte(b)}))
		for _, p := range packets() {
			s := with(encoded(t, p), 0, byte(b))
			isDecoded(t, s)
			isDecoded(t, s+"\x00")
			if !p.Src.V6 {
				isDecoded(t, summed(s))
			}
			want := api.ErrVersion
			switch {
			case b == 0x45 && !p.Src.V6, b>>4 == 6 && p.Src.V6:
				want = api.OK
			case b>>4 == 4 && b != 0x45:
				want = api.ErrExtra
			case b>>4 == 4, b>>4 == 6:
				continue // one version's bytes as the other one's
			}
			if _, err := ip.Decode(s); err != want {
				t.Errorf("first byte %02x of %d bytes: %v, want %v", b, len(s), err, want)
			}
		}
	}
}

// TestToldLength: P13.2, each length that a header may tell.
func TestToldLength(t *testing.T) {
	for _, p := range packets() {
		s := encoded(t, p)
		at, right := 2, len(s)
		if p.Src.V6 {
			at, right = 4, len(s)-40
		}
		for n := range 1 << 16 {
			q := binary.BigEndian.AppendUint16(nil, uint16(n))
			wrong := with(s, at, q...)
			if !p.Src.V6 {
				wrong = summed(wrong)
			}
			want := api.ErrForm
			if n == right {
				want = api.OK
			}
			if _, err := ip.Decode(wrong); err != want {
				t.Errorf("%d bytes, told as %d: %v, want %v", len(s), n, err, want)
			}
		}
	}
}

// TestBits: P13.2, each bit of the bytes turned, as it is, and with the sum that
// belongs to it.
func TestBits(t *testing.T) {
	for _, p := range packets() {
		s := encoded(t, p)
		for bit := range 8 * min(len(s), 60) {
			wrong := turned(s, bit)
			isDecoded(t, wrong)
			if p.Src.V6 {
				continue
			}
			isDecoded(t, summed(wrong))
			if bit >= 32 && bit < 160 {
				if _, err := ip.Decode(wrong); err != api.ErrSum {
					t.Errorf("bit %d turned: %v", bit, err)
				}
			}
		}
	}
}

// TestPieces: P13.2, every number that the bytes 6 and 7 may have, with the sum that
// belongs to it; without it, that is told first.
func TestPieces(t *testing.T) {
	s := encoded(t, packets()[0])
	for n := range 1 << 16 {
		piece := summed(with(s, 6, byte(n>>8), byte(n)))
		p, err := ip.Decode(piece)
		switch n {
		case 0, 0x4000:
			if p != packets()[0] || err != api.OK {
				t.Errorf("%04x: %v, %v", n, p, err)
			}
		default:
			if p != (api.Packet{}) || err != api.ErrPiece {
				t.Errorf("%04x: %v, %v", n, p, err)
			}
		}
		if n != 0 && n != 0xffff {
			if _, err := ip.Decode(with(s, 6, byte(n>>8), byte(n))); err != api.ErrSum {
				t.Errorf("%04x without its sum: %v", n, err)
			}
		}
	}
}

// TestUnkept: P13.2, P13.5, what a header may tell that no packet has.
func TestUnkept(t *testing.T) {
	for _, p := range packets() {
		s := encoded(t, p)
		for x := 1; x < 256; x++ {
			var like []string
			if p.Src.V6 {
				like = append(like, with(s, 0, 0x60|byte(x>>4)), with(s, 1, byte(x)), with(s, 2, byte(x)), with(s, 3, byte(x)))
			} else {
				like = append(like, summed(with(s, 1, byte(x))), summed(with(s, 4, byte(x))), summed(with(s, 5, byte(x))), summed(with(s, 6, 0x40)))
			}
			for _, u := range like {
				isDecoded(t, u)
				if q, err := ip.Decode(u); q != p || err != api.OK {
					t.Errorf("%x: %v, %v", u[:20], q, err)
				}
			}
		}
	}
}

// TestSumsOfOnes: P13.5, of a header whose sum is 0 0, ff ff is taken as well, but not told.
func TestSumsOfOnes(t *testing.T) {
	p := api.Packet{Dst: four(0), Proto: 0, TTL: 0}
	p.Src = four(uint64(wantSum("\x45\x00\x00\x14")))
	s := encoded(t, p)
	if s[10:12] != "\x00\x00" {
		t.Fatalf("a sum of %x", s[10:12])
	}
	isDecoded(t, s)
	ones := with(s, 10, 0xff, 0xff)
	isDecoded(t, ones)
	if q, err := ip.Decode(ones); q != p || err != api.OK {
		t.Errorf("%v, %v", q, err)
	}
	for n := range 1 << 16 {
		p.Src = four(uint64(n))
		if s := encoded(t, p); s[10:12] == "\xff\xff" {
			t.Errorf("%x", s)
		}
	}
}

// TestExtra: P13.2, each Proto of IPv6; of IPv4 none of them is extra.
func TestExtra(t *testing.T) {
	for n := range 256 {
		want := api.OK
		if slices.Contains(extras(), uint8(n)) {
			want = api.ErrExtra
		}
		for _, data := range []string{"", "abc", stepped(1460, 1, 1)} {
			p := api.Packet{Src: six(1, 2), Dst: six(3, 4), Proto: uint8(n), TTL: 7, Data: data}
			q, err := ip.Decode(encoded(t, p))
			if err != want || err == api.OK && q != p || err != api.OK && q != (api.Packet{}) {
				t.Errorf("Proto %d: %v, %v", n, q, err)
			}
			p.Src, p.Dst = four(5), four(6)
			if q, err := ip.Decode(encoded(t, p)); q != p || err != api.OK {
				t.Errorf("Proto %d of IPv4: %v, %v", n, q, err)
			}
		}
	}
}

// fault is a way to make bytes wrong, and what is told of it.
type fault struct {
	err  api.Errno
	make func(s string) string
}

// isFirst makes bytes wrong in each choice of these ways, which stand in the order in
// which they are told; the changes are made from the last way to the first one.
func isFirst(t *testing.T, s string, ways []fault) {
	t.Helper()
	for choice := range 1 << len(ways) {
		wrong, want := s, api.OK
		for i := len(ways) - 1; i >= 0; i-- {
			if choice>>i&1 == 1 {
				wrong, want = ways[i].make(wrong), ways[i].err
			}
		}
		if p, err := ip.Decode(wrong); err != want || want != api.OK && p != (api.Packet{}) {
			t.Errorf("choice %b: %d bytes %x: %v, want %v", choice, len(wrong), wrong[:min(len(wrong), 24)], err, want)
		}
		isDecoded(t, wrong)
	}
}

// TestFaultsAtOnce: P13.2, R2, all choices of faults at once.
func TestFaultsAtOnce(t *testing.T) {
	long := fault{api.ErrLong, func(s string) string { return s + stepped(1501, 0, 0) }}
	none := fault{api.ErrShort, func(string) string { return "" }}
	version := fault{api.ErrVersion, func(s string) string { return with(s, 0, 0x70|s[0]&15) }}
	keptSum := func(change func(s string) string) func(s string) string {
		return func(s string) string { // what was right stays right, what was wrong wrong
			was := wantSum(s[:20])
			s = change(s)
			if was == 0 {
				return summed(s)
			}
			return turned(summed(s), 90)
		}
	}
	ways := []fault{
		version,
		{api.ErrShort, func(s string) string { return s[:19] }},
		{api.ErrExtra, keptSum(func(s string) string { return with(s, 0, 0x46) })},
		{api.ErrForm, keptSum(func(s string) string { return with(s, 3, s[3]+1) })},
		{api.ErrSum, func(s string) string { return turned(s, 95) }},
		{api.ErrPiece, func(s string) string { return summed(with(s, 6, 0x20)) }},
	}
	s := encoded(t, packets()[0])
	isFirst(t, s, ways)
	isFirst(t, s, append([]fault{none}, ways...))
	isFirst(t, s, append([]fault{long}, ways...))
	ways = []fault{
		version,
		{api.ErrShort, func(s string) string { return s[:39] }},
		{api.ErrForm, func(s string) string { return with(s, 5, s[5]+1) }},
		{api.ErrExtra, func(s string) string { return with(s, 6, 44) }},
	}
	s = encoded(t, packets()[2])
	isFirst(t, s, ways)
	isFirst(t, s, append([]fault{none}, ways...))
	isFirst(t, s, append([]fault{long}, ways...))
}

// TestAnyBytes: P13.2, P13.5, bytes that are drawn, most of them nearly a packet.
func TestAnyBytes(t *testing.T) {
	r := rand.New(rand.NewSource(3))
	for range 200000 {
		n := r.Intn(70)
		b := []byte(some(r, n))
		for i := range b {
			if r.Intn(3) == 0 {
				b[i] = 0
			}
		}
		if n >= 20 && r.Intn(8) > 0 {
			b[0] = []byte{0x45, 0x60, 0x45, 0x60, 0x46, 0x6f}[r.Intn(6)]
			b[2], b[3], b[4], b[5] = 0, byte(n), 0, byte(n-40)
			b[6], b[7] = b[6]&0x40*byte(r.Intn(2)), b[7]*byte(r.Intn(2))
			if r.Intn(4) > 0 {
				b = []byte(summed(string(b)))
			}
		}
		isDecoded(t, string(b))
	}
}

// TestAgain: R6, the same answer whenever it is asked for.
func TestAgain(t *testing.T) {
	for _, p := range packets() {
		first := encoded(t, p)
		for _, q := range packets() {
			encoded(t, q)
			if again := encoded(t, p); again != first {
				t.Errorf("%x, then %x", first, again)
			}
		}
	}
}
