package ip_test

import (
	"math"
	"math/rand"
	"strconv"
	"strings"
	"testing"

	"isthmus/api"
	"isthmus/ip"
)

// isText: P13.3, P13.5, the text of an address, and that it is read as itself.
func isText(t *testing.T, a api.Addr) {
	t.Helper()
	s, want := ip.Text(a), wantText(a)
	if s != want {
		t.Errorf("Text(%+v): %q, want %q", a, s, want)
	}
	if want == "" {
		return
	}
	if b, err := ip.Read(s); b != a || err != api.OK {
		t.Errorf("Read(%q): %+v, %v, want %+v", s, b, err, a)
	}
}

// isRead: P13.3, P13.5, what is read of a text, if anything.
func isRead(t *testing.T, s string) {
	t.Helper()
	a, err := ip.Read(s)
	if b, want := wantRead(s); a != b || err != want {
		t.Errorf("Read(%q): %+v, %v, want %+v, %v", s, a, err, b, want)
	}
	if err == api.OK && ip.Text(a) != s {
		t.Errorf("%q is read as %q", s, ip.Text(a))
	}
}

// isPrefixText: P13.3, P13.5, whether a prefix may be, its text, and what is read of it.
func isPrefixText(t *testing.T, p api.Prefix) {
	t.Helper()
	if got, want := ip.MayPrefix(p), wantMayPrefix(p); got != want {
		t.Errorf("MayPrefix(%+v): %v", p, got)
	}
	s, want := ip.PrefixText(p), wantPrefixText(p)
	if s != want {
		t.Errorf("PrefixText(%+v): %q, want %q", p, s, want)
	}
	if want != "" {
		if q, err := ip.ReadPrefix(s); q != p || err != api.OK {
			t.Errorf("ReadPrefix(%q): %+v, %v, want %+v", s, q, err, p)
		}
	} else if wantMayAddr(p.Addr) {
		isNoPrefix(t, wantText(p.Addr)+"/"+strconv.Itoa(int(p.Bits)))
	}
}

func isNoAddr(t *testing.T, s string) {
	t.Helper()
	if a, err := ip.Read(s); a != (api.Addr{}) || err != api.ErrForm {
		t.Errorf("Read(%q): %+v, %v", s, a, err)
	}
}

func isNoPrefix(t *testing.T, s string) {
	t.Helper()
	if p, err := ip.ReadPrefix(s); p != (api.Prefix{}) || err != api.ErrForm {
		t.Errorf("ReadPrefix(%q): %+v, %v", s, p, err)
	}
}

func isReadPrefix(t *testing.T, s string) {
	t.Helper()
	p, err := ip.ReadPrefix(s)
	if q, want := wantReadPrefix(s); p != q || err != want {
		t.Errorf("ReadPrefix(%q): %+v, %v, want %+v, %v", s, p, err, q, want)
	}
}

func TestTextExamples(t *testing.T) {
	for s, want := range map[string]api.Addr{
		"10.0.0.1": four(0x0a000001), "fd00::1": six(0xfd00<<48, 1), "0.0.0.0": four(0), "255.255.255.255": four(0xffffffff), "1.20.213.4": four(0x0114d504),
		"::": six(0, 0), "::1": six(0, 1), "1::": six(1<<48, 0), "ffff:ffff:ffff:ffff:ffff:ffff:ffff:ffff": six(math.MaxUint64, math.MaxUint64),
		"1:0:2::": six(0x0001000000020000, 0), "0:1::": six(0x0000000100000000, 0), "::ffff:102:304": six(0, 0xffff01020304), "::a00:1": six(0, 0x0a000001),
		"1::2:0:0:3:4": six(0x0001000000000002, 0x0000000000030004), "1:0:2:3:4:5:6:7": six(0x0001000000020003, 0x0004000500060007), "1:0:0:2::3": six(0x0001000000000002, 3),
	} {
		if a, err := ip.Read(s); a != want || err != api.OK {
			t.Errorf("Read(%q): %+v, %v", s, a, err)
		}
		if got := ip.Text(want); got != s {
			t.Errorf("Text(%+v): %q, want %q", want, got, s)
		}
	}
	isNoAddr(t, "010.0.0.1")
	isNoAddr(t, "FD00::1")
	if !ip.Holds(api.Prefix{Addr: four(0x0a000000), Bits: 8}, four(0x0a010203)) {
		t.Error("Holds")
	}
	isNoPrefix(t, "10.0.0.1/8")
	if p, err := ip.ReadPrefix("fd00::/8"); p != (api.Prefix{Addr: six(0xfd00<<48, 0), Bits: 8}) || err != api.OK {
		t.Errorf("ReadPrefix: %+v, %v", p, err)
	}
}

// TestTextFour: P13.3, each number at each place of an address of IPv4.
func TestTextFour(t *testing.T) {
	for _, rest := range []uint64{0, 0x01010101, 0x0a0b6463, 0xffffffff} {
		for x := range uint64(256) {
			for at := 0; at < 32; at += 8 {
				isText(t, four(rest&^(255<<at)|x<<at))
			}
		}
	}
	r := rand.New(rand.NewSource(4))
	for range 20000 {
		isText(t, four(r.Uint64()>>32))
	}
	for _, a := range addrs() {
		isText(t, a)
	}
	for bit := range 64 {
		isText(t, api.Addr{Hi: 1 << bit})
		isText(t, api.Addr{Hi: 1 << bit, Lo: 0x0a000001})
		isText(t, api.Addr{Lo: 1<<bit | 0x0a000001})
	}
}

// TestTextSix: P13.3, noughts at every choice of places, with numbers of one to four
// digits elsewhere; each number at each place.
func TestTextSix(t *testing.T) {
	for choice := range 256 {
		for _, x := range []uint64{1, 0xf, 0x10, 0xab, 0x100, 0xcde, 0x1000, 0x8000, 0xffff} {
			isText(t, chosen(choice, x))
		}
	}
	for x := range uint64(1 << 16) {
		at := 16 * (x % 4)
		isText(t, six(0x0001000200030004&^(0xffff<<at)|x<<at, 5))
		isText(t, six(5, 0x0001000200030004&^(0xffff<<at)|x<<at))
		isText(t, six(0, 0xffff<<32|x<<16|x))
		isText(t, six(0, x<<16|x))
	}
	for bit := range 64 {
		isText(t, six(1<<bit, 0))
		isText(t, six(0, 1<<bit))
		isText(t, six(^uint64(1<<bit), math.MaxUint64))
		isText(t, six(math.MaxUint64, ^uint64(1<<bit)))
	}
	r := rand.New(rand.NewSource(5))
	for range 20000 {
		isText(t, six(r.Uint64(), r.Uint64()))
		isText(t, six(r.Uint64()>>r.Intn(64), r.Uint64()<<r.Intn(64)))
	}
}

// chosen has x at the places of a choice, the first one the highest bit, 0 elsewhere.
func chosen(choice int, x uint64) api.Addr {
	a := api.Addr{V6: true}
	for i := range 4 {
		a.Hi = a.Hi<<16 | x*uint64(choice>>(7-i)&1)
		a.Lo = a.Lo<<16 | x*uint64(choice>>(3-i)&1)
	}
	return a
}

// TestRows: P13.3, one row of noughts of every length and place, and two of them;
// what is not told is the first one of the longest, if it has two or more.
func TestRows(t *testing.T) {
	for choice := range 256 {
		words := make([]string, 8)
		for i := range words {
			words[i] = strconv.Itoa(choice >> (7 - i) & 1)
		}
		whole := strings.Join(words, ":")
		want := whole
		for size := 8; size >= 2 && want == whole; size-- {
			for from := 0; from+size <= 8 && want == whole; from++ {
				if strings.Trim(strings.Join(words[from:from+size], ""), "0") == "" {
					want = strings.Join(words[:from], ":") + "::" + strings.Join(words[from+size:], ":")
				}
			}
		}
		a := chosen(choice, 1)
		if got := ip.Text(a); got != want {
			t.Errorf("%s: %q, want %q", whole, got, want)
		}
		// Whatever else is left out of it, or nothing, is not read.
		for from := range 9 {
			for to := from; to <= 8; to++ {
				if s := strings.Join(words[:from], ":") + "::" + strings.Join(words[to:], ":"); s != want {
					isRead(t, s)
					if strings.Trim(strings.Join(words[from:to], ""), "0") == "" {
						isNoAddr(t, s)
					}
				}
			}
		}
		if whole != want {
			isNoAddr(t, whole)
		}
	}
}

// TestNoAddr: P13.3, what is nearly an address.
func TestNoAddr(t *testing.T) {
	for _, s := range []string{
		"", " ", ".", "...", "0", "1", "1.2.3", "1.2.3.", ".1.2.3", "1.2.3.4.", ".1.2.3.4", "1.2.3.4.5", "1..2.3", "1.2..3", "1.2.3.4 ", " 1.2.3.4", "1.2.3.4\n", "1.2.3.4\x00",
		"256.1.1.1", "1.256.1.1", "1.1.256.1", "1.1.1.256", "1.1.1.999", "1.1.1.1000", "1.1.1.4294967296", "1.1.1.18446744073709551617", "00.0.0.0", "0.00.0.0", "0.0.0.00", "01.2.3.4", "1.02.3.4", "1.2.3.04", "1.2.3.004", "1.2.3.0004",
		"+1.2.3.4", "-1.2.3.4", "1.2.3.-4", "0x1.2.3.4", "1.2.3.a", "1.2.3.4/32", "1.2.3.4:5", "1,2,3,4", "1_0.2.3.4", "1.2.3.4%0", "a.b.c.d", "1.2.3.٤", "１.2.3.4", "167772161", "10.1", "10.0.1",
		":", ":::", "::::", "1:", ":1", "1:2:3:4:5:6:7", "1:2:3:4:5:6:7:", ":1:2:3:4:5:6:7", "1:2:3:4:5:6:7:8:", ":1:2:3:4:5:6:7:8", "1:2:3:4:5:6:7:8:9", "1:2:3:4:5:6:7:8::", "::1:2:3:4:5:6:7:8", "1:2:3:4::5:6:7:8", "1:2:3:4:5:6:7::", "::2:3:4:5:6:7:8", "1:2:3::5:6:7:8", "::1:2:3:4:5:6:7:8:9",
		"1::2::3", "::1::", "::1:", ":1::", "1:::2", "0::", "::0", "0::0", "0:0:0:0:0:0:0:0", "0:0:0:0:0:0:0:1", "fd00:0:0:0:0:0:0:1", "fd00::0:1", "fd00:0::1", "fd00::00", "fd00::01", "fd00::001", "fd00::0001", "0fd0::1", "1::2:0:0:0:3", "1:0:0:2::3:4", "1:0:0:2:3::4",
		"FD00::1", "Fd00::1", "fD00::1", "fd00::A", "::F", "::10000", "::fffff", "::12345", "::g", "::-1", "::+1", "::0x1", "::1 ", " ::1", "::1%eth0", "::1%", "::1/128", "[::1]", "::ffff:1.2.3.4", "::1.2.3.4", "1:2:3:4:5:6:1.2.3.4", "::1\x00", "::1_0", "1.2.3.4::", "fd00;:1",
	} {
		isNoAddr(t, s)
		isNoPrefix(t, s+"/0")
		isNoPrefix(t, s+"/32")
		isNoPrefix(t, s+"/128")
	}
	for _, n := range []int{39, 40, 41, 100, 1 << 20} {
		for _, piece := range []string{"0", "1", ".", ":", "::", "1.", "1:", "0:", "/", "f", " ", "\x00", "\xff"} {
			isNoAddr(t, strings.Repeat(piece, n))
			isNoPrefix(t, strings.Repeat(piece, n))
			isNoAddr(t, "10.0.0.1"+strings.Repeat(piece, n))
			isNoPrefix(t, "10.0.0.1/32"+strings.Repeat(piece, n))
			isNoPrefix(t, "fd00::/"+strings.Repeat(piece, n))
		}
	}
}

// texts are such of addresses of both versions, short and long ones.
func texts() []string {
	return []string{"0.0.0.0", "10.0.0.1", "255.255.255.255", "192.168.17.204", "::", "::1", "1::", "fd00::1", "fe80::a:b0:c00", "1:2:3:4:5:6:7:8", "1:0:0:2::3", "1::2:0:0:3:4",
		"ffff:ffff:ffff:ffff:ffff:ffff:ffff:ffff", "::ffff:102:304", "0:1:0:1:0:1:0:1", "a:b:c:d:e:f::", "::2:3:4:5:6:7", "1:0:3::"}
}

// nearly tells each text that is s with a byte less, another one or one more, or with
// two that changed places.
func nearly(s string, tell func(s string)) {
	const bytes = "0123456789abcdefgxABCDEFZ.:/%+-_ ,[]\x00\n\xff"
	for i := range len(s) + 1 {
		if i < len(s) {
			tell(s[:i] + s[i+1:])
		}
		if i+1 < len(s) {
			tell(s[:i] + s[i+1:i+2] + s[i:i+1] + s[i+2:])
		}
		for j := range len(bytes) {
			tell(s[:i] + bytes[j:j+1] + s[i:])
			if i < len(s) {
				tell(s[:i] + bytes[j:j+1] + s[i+1:])
			}
		}
	}
}

// TestNearly: P13.3, P13.5, what is one or two bytes from an address.
func TestNearly(t *testing.T) {
	r := rand.New(rand.NewSource(6))
	for _, s := range texts() {
		isRead(t, s)
		nearly(s, func(s string) {
			isRead(t, s)
			if r.Intn(20) == 0 {
				nearly(s, func(s string) { isRead(t, s) })
			}
		})
	}
}

// TestShortTexts: P13.3, all texts of few bytes of which addresses are made.
func TestShortTexts(t *testing.T) {
	var fill func(s string, size int)
	fill = func(s string, size int) {
		isRead(t, s)
		if size == 0 {
			return
		}
		for _, b := range []string{"0", "1", "2", "9", "f", ".", ":", "A"} {
			fill(s+b, size-1)
		}
	}
	fill("", 5)
	fill("1.0.", 4)
	fill("0.0.0.", 4)
	fill("f::", 4)
	fill("1:2:3:4:5:6:", 4)
}

// TestEveryCount: P13.3, each count of bits, with a bit at each place, and with all
// bits up to each place.
func TestEveryCount(t *testing.T) {
	for bits := range 256 {
		for place := range 128 {
			all := six(0, 0)
			for ahead := range place + 1 {
				all = other(all, ahead)
			}
			for _, a := range []api.Addr{other(six(0, 0), place), all} {
				p := api.Prefix{Addr: a, Bits: uint8(bits)}
				isPrefixText(t, p)
				if want := place < bits && bits <= 128; ip.MayPrefix(p) != want {
					t.Errorf("MayPrefix(%+v): %v", p, !want)
				}
				if place >= 32 {
					continue
				}
				p = api.Prefix{Addr: four(a.Hi >> 32), Bits: uint8(bits)}
				isPrefixText(t, p)
				if want := place < bits && bits <= 32; ip.MayPrefix(p) != want {
					t.Errorf("MayPrefix(%+v): %v", p, !want)
				}
			}
		}
		for _, a := range addrs() {
			isPrefixText(t, api.Prefix{Addr: a, Bits: uint8(bits)})
		}
	}
	r := rand.New(rand.NewSource(7))
	for range 30000 {
		isPrefixText(t, api.Prefix{Addr: six(r.Uint64()<<r.Intn(65), 0), Bits: uint8(r.Intn(256))})
		isPrefixText(t, api.Prefix{Addr: six(r.Uint64(), r.Uint64()<<r.Intn(65)), Bits: uint8(r.Intn(256))})
		isPrefixText(t, api.Prefix{Addr: four(r.Uint64() << r.Intn(33) & 0xffffffff), Bits: uint8(r.Intn(40))})
	}
}

// TestNoPrefix: P13.3, what is nearly a prefix.
func TestNoPrefix(t *testing.T) {
	for _, s := range []string{"", "/", "//", "/8", "10.0.0.0", "10.0.0.0/", "10.0.0.0//8", "10.0.0.0/8/", "/10.0.0.0/8", "10.0.0.0/8/8", "10.0.0.0/08", "10.0.0.0/008", "10.0.0.0/+8", "10.0.0.0/-8", "10.0.0.0/ 8", "10.0.0.0/8 ", " 10.0.0.0/8", "10.0.0.0 /8", "10.0.0.0/0x8", "10.0.0.0/1_6", "10.0.0.0/8.", "10.0.0.0/a",
		"10.0.0.0/33", "10.0.0.0/128", "10.0.0.0/255", "10.0.0.0/256", "10.0.0.0/264", "10.0.0.0/4294967304", "10.0.0.0/18446744073709551624", "0.0.0.0/00", "10.0.0.1/8", "10.0.0.1/31", "10.128.0.0/8", "1.2.3.4/0", "10.0.0/8", "10/8", "010.0.0.0/8", "10.0.0.0:8", "10.0.0.0/255.0.0.0",
		"::", "::/", "::/129", "::/255", "::/256", "::/384", "::/00", "::/0f", "::1/127", "fd00::/7", "FD00::/8", "fd00:0::/8", "fd00::0/8", "fd00/8", "::/128/", "::ffff:0.0.0.0/96", "0:0:0:0:0:0:0:0/0", "[::]/0", "::%0/0",
	} {
		isNoPrefix(t, s)
		isReadPrefix(t, s)
	}
	for n := range 1000 {
		isReadPrefix(t, "0.0.0.0/"+strconv.Itoa(n))
		isReadPrefix(t, "255.255.255.255/"+strconv.Itoa(n))
		isReadPrefix(t, "::/"+strconv.Itoa(n))
		isReadPrefix(t, "::1/"+strconv.Itoa(n))
		isReadPrefix(t, "0.0.0.0/0"+strconv.Itoa(n))
		isReadPrefix(t, "::/0"+strconv.Itoa(n))
	}
	for _, s := range []string{"0.0.0.0/0", "10.0.0.0/8", "10.0.0.1/32", "::/0", "fd00::/8", "::1/128", "1:2:3:4:5:6:7:8/128", "1:2::/99", "128.0.0.0/1"} {
		isReadPrefix(t, s)
		if p, err := ip.ReadPrefix(s); err != api.OK || ip.PrefixText(p) != s {
			t.Errorf("%q: %+v, %v", s, p, err)
		}
		nearly(s, func(s string) { isReadPrefix(t, s) })
	}
}

// isHeld: P13.4.
func isHeld(t *testing.T, p api.Prefix, a api.Addr) {
	t.Helper()
	if got, want := ip.Holds(p, a), wantHolds(p, a); got != want {
		t.Errorf("Holds(%+v, %+v): %v", p, a, got)
	}
}

// TestHolds: P13.4, each count of bits of both versions, an address with a bit turned
// at each place.
func TestHolds(t *testing.T) {
	for _, whole := range []api.Addr{six(0, 0), six(math.MaxUint64, math.MaxUint64), six(0x0123456789abcdef, 0xfedcba9876543210), four(0), four(0xffffffff), four(0x0a51f384)} {
		width := len(bitsOf(whole))
		for bits := range width + 1 {
			p := api.Prefix{Addr: whole, Bits: uint8(bits)}
			for place := bits; place < width; place++ {
				p.Addr = without(p.Addr, place)
			}
			isHeld(t, p, whole)
			if !ip.Holds(p, whole) || !ip.Holds(p, p.Addr) {
				t.Errorf("%+v does not hold %+v", p, whole)
			}
			for place := range width {
				a := other(whole, place)
				isHeld(t, p, a)
				if got, want := ip.Holds(p, a), place >= bits; got != want {
					t.Errorf("Holds(%+v, %+v): %v", p, a, got)
				}
				isHeld(t, api.Prefix{Addr: other(p.Addr, place), Bits: p.Bits}, whole)
				isHeld(t, api.Prefix{Addr: other(p.Addr, place), Bits: p.Bits}, other(p.Addr, place))
			}
		}
		for bits := width + 1; bits < 256; bits++ {
			if ip.Holds(api.Prefix{Addr: whole, Bits: uint8(bits)}, whole) {
				t.Errorf("%d bits hold %+v", bits, whole)
			}
		}
	}
}

// other is a with a bit turned, by its place behind the first one.
func other(a api.Addr, place int) api.Addr {
	if at := len(bitsOf(a)) - 1 - place; at >= 64 {
		a.Hi ^= 1 << (at - 64)
	} else {
		a.Lo ^= 1 << at
	}
	return a
}

// without is a with a bit that is 0, by its place.
func without(a api.Addr, place int) api.Addr {
	if bitsOf(a)[place] == '1' {
		return other(a, place)
	}
	return a
}

// TestHoldsNone: P13.4, of addresses and prefixes that may not be, and of two versions.
func TestHoldsNone(t *testing.T) {
	for _, a := range addrs() {
		for _, b := range addrs() {
			for bits := range 256 {
				isHeld(t, api.Prefix{Addr: a, Bits: uint8(bits)}, b)
			}
		}
	}
	allFour, allSix := api.Prefix{}, api.Prefix{Addr: six(0, 0)}
	for _, a := range addrs() {
		if got, want := ip.Holds(allFour, a), wantMayAddr(a) && !a.V6; got != want {
			t.Errorf("all of IPv4, %+v: %v", a, got)
		}
		if got, want := ip.Holds(allSix, a), a.V6; got != want {
			t.Errorf("all of IPv6, %+v: %v", a, got)
		}
	}
}

// TestLess: P13.4, any two addresses, such too as may not be.
func TestLess(t *testing.T) {
	all := addrs()
	for bit := range 64 {
		all = append(all, four(1<<bit), six(1<<bit, 0), six(0, 1<<bit), six(1<<bit, 1<<bit), api.Addr{Hi: 1 << bit, Lo: 7})
	}
	for _, a := range all {
		for _, b := range all {
			if got, want := ip.Less(a, b), wantLess(a, b); got != want {
				t.Errorf("Less(%+v, %+v): %v", a, b, got)
			}
			if n := count(ip.Less(a, b), ip.Less(b, a), a == b); n != 1 {
				t.Errorf("%+v, %+v: %d of before, behind, the same", a, b, n)
			}
		}
	}
	for _, c := range []struct {
		a, b api.Addr
		want bool
	}{
		{four(5), six(0, 0), true}, {six(0, 0), four(5), false}, {four(0xffffffff), six(0, 1), true}, {four(1), four(2), true}, {four(2), four(1), false}, {four(1), four(1), false},
		{six(1, 9), six(2, 0), true}, {six(2, 0), six(1, 9), false}, {six(1, 1), six(1, 2), true}, {six(1, 2), six(1, 1), false}, {six(1, 1), six(1, 1), false},
		{six(1, 0), six(1<<63, 0), true}, {six(0, 1), six(0, 1<<63), true}, {api.Addr{Hi: 1}, four(5), false}, {api.Addr{Hi: math.MaxUint64}, six(0, 0), true},
	} {
		if got := ip.Less(c.a, c.b); got != c.want {
			t.Errorf("Less(%+v, %+v): %v", c.a, c.b, got)
		}
	}
}

func count(list ...bool) int {
	n := 0
	for _, is := range list {
		if is {
			n++
		}
	}
	return n
}
