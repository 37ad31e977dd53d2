package rules

import (
	"cmp"
	"math"
	"math/rand"
	"slices"
	"strings"
	"testing"

	"isthmus/api"
)

// TestOnes: the lowest bits, as many as are told, at both ends and beyond.
func TestOnes(t *testing.T) {
	for count := -128; count <= 192; count++ {
		want := uint64(0)
		for bit := range 64 {
			if bit < count {
				want |= 1 << bit
			}
		}
		if got := ones(count); got != want {
			t.Errorf("%d: %x, want %x", count, got, want)
		}
	}
}

// TestNextAddr: what stands behind the last one of IPv4 is none that may be.
func TestNextAddr(t *testing.T) {
	for a, want := range map[api.Addr]api.Addr{
		{}: {Lo: 1}, {Lo: math.MaxUint32 - 1}: {Lo: math.MaxUint32}, {Lo: math.MaxUint32}: {Lo: math.MaxUint32 + 1},
		{V6: true}: {V6: true, Lo: 1}, {V6: true, Lo: math.MaxUint32}: {V6: true, Lo: math.MaxUint32 + 1},
		{V6: true, Hi: 6, Lo: math.MaxUint64}: {V6: true, Hi: 7}, {V6: true, Hi: math.MaxUint64, Lo: math.MaxUint64}: {V6: true},
	} {
		if got := nextAddr(a); got != want {
			t.Errorf("%v: %v, want %v", a, got, want)
		}
	}
	if mayAddr(nextAddr(api.Addr{Lo: math.MaxUint32})) {
		t.Error("there is something behind the last address of IPv4")
	}
}

// TestCompareAddrs: all of IPv4 ahead of IPv6, and of each the higher bits first.
func TestCompareAddrs(t *testing.T) {
	rising := []api.Addr{{}, {Lo: 1}, {Lo: math.MaxUint32}, {V6: true}, {V6: true, Lo: 2}, {V6: true, Lo: math.MaxUint64}, {V6: true, Hi: 1}, {V6: true, Hi: 1, Lo: 1}, {V6: true, Hi: 2}}
	for i, a := range rising {
		for j, b := range rising {
			if got := compareAddrs(a, b); got != cmp.Compare(i, j) {
				t.Errorf("%v, %v: %d", a, b, got)
			}
		}
	}
}

// TestMerged: how ends are compared is what it is handed, and nothing else: here texts by
// their lengths, none of which is next to another one, and numbers that fall.
func TestMerged(t *testing.T) {
	byLength := func(a, b string) int { return cmp.Compare(len(a), len(b)) }
	never := func(string) string { return "" }
	got := merged([]span[string]{{"cccc", "bbbbb"}, {"z", "zz"}, {"yy", "aaa"}}, byLength, never)
	if want := []span[string]{{"z", "aaa"}, {"cccc", "bbbbb"}}; !slices.Equal(got, want) {
		t.Errorf("%v, want %v", got, want)
	}
	falling := func(a, b int) int { return cmp.Compare(b, a) }
	less := func(n int) int { return n - 1 }
	down := merged([]span[int]{{3, 1}, {9, 8}, {7, 6}, {4, 4}}, falling, less)
	if want := []span[int]{{9, 6}, {4, 1}}; !slices.Equal(down, want) {
		t.Errorf("%v, want %v", down, want)
	}
	if got := merged(nil, falling, less); len(got) != 0 {
		t.Errorf("of nothing: %v", got)
	}
}

// TestMergedDrawn: numbers modulo 2^8, held against a row of all 256.
func TestMergedDrawn(t *testing.T) {
	r := rand.New(rand.NewSource(23))
	next := func(n uint8) uint8 { return n + 1 }
	for range 20000 {
		var list []span[uint8]
		var there [257]bool
		for range r.Intn(12) {
			lo := r.Intn(256)
			hi := min(lo+r.Intn(1<<r.Intn(8)), 255)
			list = append(list, span[uint8]{uint8(lo), uint8(hi)})
			for n := lo; n <= hi; n++ {
				there[n] = true
			}
		}
		var want []span[uint8]
		for n := range 256 {
			if there[n] && (n == 0 || !there[n-1]) {
				want = append(want, span[uint8]{lo: uint8(n)})
			}
			if there[n] && !there[n+1] {
				want[len(want)-1].hi = uint8(n)
			}
		}
		if got := merged(slices.Clone(list), cmp.Compare[uint8], next); !slices.Equal(got, want) {
			t.Fatalf("%v: %v, want %v", list, got, want)
		}
	}
}

// TestSelectedEnds: whoever asks for what a selector has may leave it at any span, and
// begin anew.
func TestSelectedEnds(t *testing.T) {
	peers := []api.Peer{{User: "ann", Tags: []string{"t"}, Addrs: []api.Addr{{Lo: 1}, {Lo: 2}}}, {User: "bob"}, {User: "ann", Addrs: []api.Addr{{Lo: 3}}}}
	p := api.Policy{Groups: []api.Named{{Name: "g", List: []string{"ann"}}}, Hosts: []api.HostName{{Name: "h"}}}
	list := []api.Sel{
		{Kind: api.SelAny}, {Kind: api.SelUser, Name: "ann"}, {Kind: api.SelGroup, Name: "g"}, {Kind: api.SelTag, Name: "t"}, {Kind: api.SelHost, Name: "h"}, {Kind: api.SelNet},
		{Kind: api.SelNet, Net: api.Prefix{Bits: 33}}, {}, {Kind: api.SelHost, Name: strings.Repeat("h", 2)},
	}
	all := slices.Collect(selectedBy(p, peers, list))
	if len(all) != 2+3+3+2+1+1 {
		t.Fatalf("%d spans: %v", len(all), all)
	}
	spans := selectedBy(p, peers, list)
	for end := range all {
		var got []api.AddrSpan
		for s := range spans {
			got = append(got, s)
			if len(got) == end+1 {
				break
			}
		}
		if !slices.Equal(got, all[:end+1]) {
			t.Errorf("up to %d: %v", end, got)
		}
	}
	for _, s := range list {
		count := 0
		for range selected(p, peers, s) {
			count++
			break
		}
		if whole := slices.Collect(selected(p, peers, s)); count != min(len(whole), 1) {
			t.Errorf("%v: %d of %d", s, count, len(whole))
		}
	}
}
