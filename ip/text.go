package ip

import (
	"strconv"
	"strings"

	"isthmus/api"
)

// What has more bytes than these is not looked at: a text may be as long as it likes.
const (
	longest    = len("ffff:ffff:ffff:ffff:ffff:ffff:ffff:ffff")
	mostDigits = len("ffff")
)

// groups are the numbers that the text of an IPv6 address tells.
type groups [8]uint16

func groupsOf(a api.Addr) groups {
	var g groups
	for i := range g {
		word := a.Hi
		if i >= 4 {
			word = a.Lo
		}
		g[i] = uint16(word >> (48 - 16*(i%4)))
	}
	return g
}

func (g groups) addr() api.Addr {
	a := api.Addr{V6: true}
	for i := range 4 {
		a.Hi = a.Hi<<16 | uint64(g[i])
		a.Lo = a.Lo<<16 | uint64(g[i+4])
	}
	return a
}

// untold is where the row of numbers begins and ends of which nothing is told; both
// are 0, if all are told.
func (g groups) untold() (from, to int) {
	begin := 0
	for i, x := range g {
		if x != 0 {
			begin = i + 1
		}
		// A row of one is told, and of equal ones the first is not.
		if i+1-begin > max(to-from, 1) {
			from, to = begin, i+1
		}
	}
	return from, to
}

func textOfSix(a api.Addr) string {
	g := groupsOf(a)
	from, to := g.untold()
	if from == to {
		return joined(g[:], ":", 16)
	}
	return joined(g[:from], ":", 16) + "::" + joined(g[to:], ":", 16)
}

func textOfFour(a api.Addr) string {
	var parts [4]uint16
	for i := range parts {
		parts[i] = uint16(byte(a.Lo >> (24 - 8*i)))
	}
	return joined(parts[:], ".", 10)
}

// joined is the text of numbers with sep between.
func joined(list []uint16, sep string, base int) string {
	words := make([]string, 0, len(list))
	for _, x := range list {
		words = append(words, strconv.FormatUint(uint64(x), base))
	}
	return strings.Join(words, sep)
}

// likely is the address whose text s is, if s is one's. Of other texts it may tell
// one, too: whoever asks must hold s against its text.
func likely(s string) (api.Addr, bool) {
	switch {
	case len(s) > longest:
		return api.Addr{}, false
	case strings.Contains(s, ":"):
		return likelySix(s)
	}
	return likelyFour(s)
}

func likelyFour(s string) (api.Addr, bool) {
	parts, is := numbers(s, ".", 10, 8)
	if !is || len(parts) != 4 {
		return api.Addr{}, false
	}
	var a api.Addr
	for _, x := range parts {
		a.Lo = a.Lo<<8 | uint64(x)
	}
	return a, true
}

func likelySix(s string) (api.Addr, bool) {
	ahead, behind, _ := strings.Cut(s, "::")
	first, isFirst := numbers(ahead, ":", 16, 16)
	last, isLast := numbers(behind, ":", 16, 16)
	var g groups
	if !isFirst || !isLast || len(first)+len(last) > len(g) {
		return api.Addr{}, false
	}
	copy(g[:], first)
	copy(g[len(g)-len(last):], last)
	return g.addr(), true
}

// numbers are those that stand in s with sep between, none in an empty one, and
// whether there is nothing else.
func numbers(s, sep string, base, bits int) ([]uint16, bool) {
	if s == "" {
		return nil, true
	}
	var out []uint16
	for _, word := range strings.Split(s, sep) {
		x, is := number(word, base, bits)
		if !is {
			return nil, false
		}
		out = append(out, x)
	}
	return out, true
}

// number is the one of at most so many bits, 16 or fewer, that s tells, and whether
// it tells one.
func number(s string, base, bits int) (uint16, bool) {
	if len(s) > mostDigits {
		return 0, false
	}
	x, err := strconv.ParseUint(s, base, bits)
	if err != nil {
		return 0, false
	}
	return uint16(x), true
}
