package sha_test

import (
	"crypto/sha512"
	"encoding/hex"
	"math/rand"
	"strings"
	"testing"

	"isthmus/api"
	"isthmus/sha"
)

// want is the digest of s, as the library has it.
func want(s string) string {
	d := sha512.Sum512([]byte(s))
	return string(d[:])
}

// some are so many bytes, the same ones in every run.
func some(count int, seed int64) string {
	b := make([]byte, count)
	rand.New(rand.NewSource(seed)).Read(b)
	return string(b)
}

func add(t *testing.T, h *sha.Hash, pieces ...string) {
	t.Helper()
	for _, s := range pieces {
		if err := h.Add(s); err != api.OK {
			t.Fatalf("Add of %d bytes: %v", len(s), err)
		}
	}
}

// isDigest holds d against the library's digest of s.
func isDigest(t *testing.T, what, d, s string) {
	t.Helper()
	if d != want(s) {
		t.Errorf("%s, %d bytes: got %x, want %x", what, len(s), d, want(s))
	}
}

// bothWays holds Of and a hash that had s at once against the library.
func bothWays(t *testing.T, s string) {
	t.Helper()
	isDigest(t, "Of", sha.Of(s), s)
	h := sha.New()
	add(t, h, s)
	isDigest(t, "Sum", h.Sum(), s)
}

func TestExamples(t *testing.T) {
	for s, first := range map[string]string{"": "cf83e1357eefb8bd", "abc": "ddaf35a193617aba"} {
		d := sha.Of(s)
		if len(d) != 64 || hex.EncodeToString([]byte(d[:8])) != first {
			t.Errorf("%q: got %x, want %s ..", s, d, first)
		}
	}
}

// TestVectors: RFC 6234, section 8.5, of whole bytes.
func TestVectors(t *testing.T) {
	for _, v := range []struct {
		text  string
		times int
		want  string
	}{
		{"abc", 1, "ddaf35a193617abacc417349ae20413112e6fa4e89a97ea20a9eeee64b55d39a2192992a274fc1a836ba3c23a3feebbd454d4423643ce80e2a9ac94fa54ca49f"},
		{"abcdefghbcdefghicdefghijdefghijkefghijklfghijklmghijklmnhijklmnoijklmnopjklmnopqklmnopqrlmnopqrsmnopqrstnopqrstu", 1, "8e959b75dae313da8cf4f72814fc143f8f7779c6eb9f7fa17299aeadb6889018501d289e4900f7e4331b99dec4b5433ac7d329eeb6dd26545e96e55b874be909"},
		{"a", 1000000, "e718483d0ce769644e2e42c7bc15b4638e1f98b13b2044285632a803afa973ebde0ff244877ea60a4cb0432ce577c31beb009c5c2c49aa2e4eadb217ad8cc09b"},
		{strings.Repeat("01234567", 8), 10, "89d05ba632c699c31231ded4ffc127d5a894dad412c0e024db872d1abd2ba8141a0f85072a9be1e2aa04cf33c765cb510813a39cd5a84c4acaa64d3f3fb7bae9"},
	} {
		if d := hex.EncodeToString([]byte(sha.Of(strings.Repeat(v.text, v.times)))); d != v.want {
			t.Errorf("%d times %q: got %s, want %s", v.times, v.text, d, v.want)
		}
		h := sha.New()
		for range v.times {
			add(t, h, v.text)
		}
		if d := hex.EncodeToString([]byte(h.Sum())); d != v.want {
			t.Errorf("%d pieces %q: got %s, want %s", v.times, v.text, d, v.want)
		}
	}
}

func TestNoBytes(t *testing.T) {
	isDigest(t, "Of", sha.Of(""), "")
	h := sha.New()
	isDigest(t, "ahead of Add", h.Sum(), "")
	add(t, h, "", "")
	isDigest(t, "behind Adds of nothing", h.Sum(), "")
	add(t, h, "a")
	isDigest(t, "behind an a", h.Sum(), "a")
}

func TestEveryLength(t *testing.T) {
	long := some(1200, 1)
	for n := range len(long) + 1 {
		bothWays(t, long[:n])
	}
}

func TestBlockEdges(t *testing.T) {
	for blocks := range 5 {
		for _, n := range []int{0, 1, 110, 111, 112, 113, 118, 119, 120, 121, 126, 127, 128, 129} {
			for _, fill := range []string{"\x00", "\x80", "\xff", "x"} {
				bothWays(t, strings.Repeat(fill, blocks*128+n))
			}
		}
	}
}

// TestEachBit: a text of two blocks, in which one bit is set.
func TestEachBit(t *testing.T) {
	for place := range 8 * 256 {
		b := make([]byte, 256)
		b[place/8] = 1 << (place % 8)
		bothWays(t, string(b))
	}
}

func TestManyTexts(t *testing.T) {
	r := rand.New(rand.NewSource(2))
	for i := range 3000 {
		bothWays(t, some(r.Intn(700), int64(1000+i)))
	}
}

// TestLong: the count of bits needs two, three and four bytes, each beyond its edge.
func TestLong(t *testing.T) {
	long := some(1<<22, 3)
	for _, n := range []int{31, 32, 33, 8191, 8192, 8193, 1<<21 - 1, 1 << 21, 1<<21 + 1, 1<<22 - 17, 1 << 22} {
		bothWays(t, long[:n])
	}
}

// TestBytesAreNoRunes: bytes that are no text of runes, or of several bytes each.
func TestBytesAreNoRunes(t *testing.T) {
	for _, s := range []string{"\xff\xfe", "\xc3", "é", "日本語", "\x00", "a\x00", "\xed\xa0\x80", "\u2028"} {
		bothWays(t, s)
		bothWays(t, strings.Repeat(s, 100))
	}
	if sha.Of("a") == sha.Of("a\x00") {
		t.Error("a byte 0 at the end does not count")
	}
}

func TestNone(t *testing.T) {
	var none *sha.Hash
	var unmade sha.Hash
	for what, h := range map[string]*sha.Hash{"nil": none, "unmade": &unmade, "new": new(sha.Hash), "literal": {}} {
		for _, s := range []string{"", "abc", strings.Repeat("x", 300)} {
			if err := h.Add(s); err != api.ErrNil {
				t.Errorf("%s: Add of %d bytes: %v", what, len(s), err)
			}
			if d := h.Sum(); d != "" {
				t.Errorf("%s: Sum: %x", what, d)
			}
		}
	}
	if unmade != (sha.Hash{}) {
		t.Error("Add changed what is none")
	}
}

func TestSumTwice(t *testing.T) {
	long := some(300, 4)
	for n := range len(long) + 1 {
		h := sha.New()
		add(t, h, long[:n])
		first := h.Sum()
		for range 3 {
			if d := h.Sum(); d != first {
				t.Errorf("%d bytes: first %x, then %x", n, first, d)
			}
		}
		isDigest(t, "Sum", first, long[:n])
	}
}

// TestMoreBehindSum: each sum on the way is that of the beginning that the hash has then.
func TestMoreBehindSum(t *testing.T) {
	long := some(700, 5)
	for _, step := range []int{1, 3, 16, 17, 64, 111, 112, 127, 128, 129, 255, 256, 257} {
		h := sha.New()
		for at := 0; at < len(long); at += step {
			isDigest(t, "on the way", h.Sum(), long[:at])
			add(t, h, long[at:min(at+step, len(long))])
		}
		isDigest(t, "at the end", h.Sum(), long)
	}
}

// TestOnlyTheBytes is P5.2, over all ways to cut a text in two and in three.
func TestOnlyTheBytes(t *testing.T) {
	long := some(400, 6)
	for _, n := range []int{0, 1, 111, 112, 127, 128, 129, 239, 240, 255, 256, 257, 400} {
		s := long[:n]
		d := sha.Of(s)
		for i := range n + 1 {
			for j := i; j <= n; j += 1 + n/23 {
				h := sha.New()
				add(t, h, s[:i], "", s[i:j], s[j:])
				if h.Sum() != d {
					t.Errorf("%d bytes, cut at %d and %d", n, i, j)
				}
			}
		}
		isDigest(t, "Of", d, s)
	}
}

func TestPiecesOfAllSizes(t *testing.T) {
	r := rand.New(rand.NewSource(7))
	for round := range 400 {
		s := some(r.Intn(3000), int64(5000+round))
		h, most := sha.New(), 1+r.Intn(400)
		for rest := s; len(rest) > 0; {
			n := min(r.Intn(most+1), len(rest))
			add(t, h, rest[:n])
			rest = rest[n:]
			if r.Intn(8) == 0 {
				isDigest(t, "on the way", h.Sum(), s[:len(s)-len(rest)])
			}
		}
		isDigest(t, "pieces", h.Sum(), s)
		isDigest(t, "Of", sha.Of(s), s)
	}
}

func TestByteByByte(t *testing.T) {
	long := some(1000, 8)
	h := sha.New()
	for i := range len(long) {
		add(t, h, long[i:i+1])
		isDigest(t, "byte by byte", h.Sum(), long[:i+1])
	}
}

// TestHashesApart: two hashes that are added to in turns have nothing of each other.
func TestHashesApart(t *testing.T) {
	one, two := some(900, 9), some(900, 10)
	a, b := sha.New(), sha.New()
	for at := 0; at < 900; at += 50 {
		add(t, a, one[at:at+50])
		add(t, b, two[at:at+50])
		sha.Of(two[:at])
		isDigest(t, "the one", a.Sum(), one[:at+50])
		isDigest(t, "the other", b.Sum(), two[:at+50])
	}
	isDigest(t, "a new one", sha.New().Sum(), "")
}
