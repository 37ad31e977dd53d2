package blake_test

import (
	"crypto/sha256"
	"encoding/hex"
	"math"
	"math/rand"
	"strings"
	"testing"

	"isthmus/api"
	"isthmus/blake"
)

// some are so many bytes, the same ones in every run.
func some(count int, seed int64) string {
	b := make([]byte, count)
	rand.New(rand.NewSource(seed)).Read(b)
	return string(b)
}

// upwards are so many bytes, 0, 1, 2 ..
func upwards(count int) string {
	b := make([]byte, count)
	for i := range b {
		b[i] = byte(i)
	}
	return string(b)
}

func sum(t *testing.T, size int, key, s string) string {
	t.Helper()
	d, err := blake.Sum(size, key, s)
	if err != api.OK {
		t.Fatalf("Sum of size %d, a key of %d bytes: %v", size, len(key), err)
	}
	return d
}

func begin(t *testing.T, size int, key string) *blake.Hash {
	t.Helper()
	h, err := blake.New(size, key)
	if err != api.OK || h == nil {
		t.Fatalf("New of size %d, a key of %d bytes: %v", size, len(key), err)
	}
	return h
}

func add(t *testing.T, h *blake.Hash, pieces ...string) {
	t.Helper()
	for _, s := range pieces {
		if err := h.Add(s); err != api.OK {
			t.Fatalf("Add of %d bytes: %v", len(s), err)
		}
	}
}

// isSum holds d against what the chapter says of s.
func isSum(t *testing.T, what, d string, size int, key, s string) {
	t.Helper()
	if w := want(size, key, s); d != w {
		t.Errorf("%s, size %d, a key of %d bytes, %d bytes: got %x, want %x", what, size, len(key), len(s), d, w)
	}
}

// bothWays holds Sum and a hash that had s at once against the chapter.
func bothWays(t *testing.T, size int, key, s string) {
	t.Helper()
	isSum(t, "Sum", sum(t, size, key, s), size, key, s)
	h := begin(t, size, key)
	add(t, h, s)
	isSum(t, "Sum of a hash", h.Sum(), size, key, s)
	if size == 32 && key == "" {
		isSum(t, "Of", blake.Of(s), size, key, s)
	}
}

func TestExamples(t *testing.T) {
	if d := blake.Of("abc"); len(d) != 32 || d[:8] != unhex("508c5e8c327c14e2") {
		t.Errorf("Of of abc: %x", d)
	}
	isRefused(t, 33, "")
	isRefused(t, 0, "")
	isRefused(t, 32, strings.Repeat("k", 33))
	h := begin(t, 16, "k")
	add(t, h, "ab", "c")
	if d := h.Sum(); len(d) != 16 || d != sum(t, 16, "k", "abc") {
		t.Errorf("New(16, k), ab, c: %x", d)
	}
}

// TestVectors: abc is that of RFC 7693, appendix B; the other ones, of the bytes
// 0, 1, 2 .. without a key and by a key of the same, were made by CPython's hashlib.
func TestVectors(t *testing.T) {
	if d := hex.EncodeToString([]byte(blake.Of("abc"))); d != "508c5e8c327c14e2e1a72ba34eeb452f37458b209ed63a294d999b4c86675982" {
		t.Errorf("abc: %s", d)
	}
	if d := hex.EncodeToString([]byte(blake.Of(strings.Repeat("a", 1000000)))); d != "bec0c0e6cde5b67acb73b81f79a67a4079ae1c60dac9d2661af18e9f8b50dfa5" {
		t.Errorf("a million times a: %s", d)
	}
	for _, v := range []struct {
		count        int
		plain, keyed string
	}{
		{0, "69217a3079908094e11121d042354a7c1f55b6482ca1a51e1b250dfd1ed0eef9", "48a8997da407876b3d79c0d92325ad3b89cbb754d86ab71aee047ad345fd2c49"},
		{1, "e34d74dbaf4ff4c6abd871cc220451d2ea2648846c7757fbaac82fe51ad64bea", "40d15fee7c328830166ac3f918650f807e7e01e177258cdc0a39b11f598066f1"},
		{2, "ddad9ab15dac4549ba42f49d262496bef6c0bae1dd342a8808f8ea267c6e210c", "6bb71300644cd3991b26ccd4d274acd1adeab8b1d7914546c1198bbe9fc9d803"},
		{63, "e57cb79487dd57902432b250733813bd96a84efce59f650fac26e6696aefafc3", "c65382513f07460da39833cb666c5ed82e61b9e998f4b0c4287cee56c3cc9bcd"},
		{64, "56f34e8b96557e90c1f24b52d0c89d51086acf1b00f634cf1dde9233b8eaaa3e", "8975b0577fd35566d750b362b0897a26c399136df07bababbde6203ff2954ed4"},
		{65, "1b53ee94aaf34e4b159d48de352c7f0661d0a40edff95a0b1639b4090e974472", "21fe0ceb0052be7fb0f004187cacd7de67fa6eb0938d927677f2398c132317a8"},
		{127, "f18417b39d617ab1c18fdf91ebd0fc6d5516bb34cf39364037bce81fa04cecb1", "ddbfea75cc467882eb3483ce5e2e756a4f4701b76b445519e89f22d60fa86e06"},
		{128, "1fa877de67259d19863a2a34bcc6962a2b25fcbf5cbecd7ede8f1fa36688a796", "0c311f38c35a4fb90d651c289d486856cd1413df9b0677f53ece2cd9e477c60a"},
		{129, "5bd169e67c82c2c2e98ef7008bdf261f2ddf30b1c00f9e7f275bb3e8a28dc9a2", "46a73a8dd3e70f59d3942c01df599def783c9da82fd83222cd662b53dce7dbdf"},
		{255, "f03f5789d3336b80d002d59fdf918bdb775b00956ed5528e86aa994acb38fe2d", "3fb735061abc519dfe979e54c1ee5bfad0a9d858b3315bad34bde999efd724dd"},
	} {
		if d := hex.EncodeToString([]byte(blake.Of(upwards(v.count)))); d != v.plain {
			t.Errorf("%d bytes: got %s, want %s", v.count, d, v.plain)
		}
		if d := hex.EncodeToString([]byte(sum(t, 32, upwards(32), upwards(v.count)))); d != v.keyed {
			t.Errorf("%d bytes by a key: got %s, want %s", v.count, d, v.keyed)
		}
	}
}

// TestSelfTest: RFC 7693, appendix E.
func TestSelfTest(t *testing.T) {
	drawn := func(count int) string {
		a, b := 0xDEAD4BAD*uint32(count), uint32(1)
		out := make([]byte, count)
		for i := range out {
			a, b = b, a+b
			out[i] = byte(b >> 24)
		}
		return string(out)
	}
	h := begin(t, 32, "")
	for _, size := range []int{16, 20, 28, 32} {
		for _, n := range []int{0, 3, 64, 65, 255, 1024} {
			add(t, h, sum(t, size, "", drawn(n)), sum(t, size, drawn(size), drawn(n)))
		}
	}
	if d := hex.EncodeToString([]byte(h.Sum())); d != "6a411f08ce25adcdfb02aba641451cec53c598b24f4fc787fbdc88797f4c1dfe" {
		t.Error(d)
	}
}

// TestFolded: sums of all sizes, by keys of all lengths, of texts around a
// piece's edge, and sums of all lengths up to 1200, as CPython's hashlib made them.
func TestFolded(t *testing.T) {
	counts := []int{0, 1, 2, 3, 31, 32, 33, 55, 56, 63, 64, 65, 66, 100, 127, 128, 129, 191, 192, 193, 256, 300}
	stepped := func(count, step, from int) string {
		b := make([]byte, count)
		for i := range b {
			b[i] = byte(i*step + from)
		}
		return string(b)
	}
	fold := sha256.New()
	for size := 1; size <= 32; size++ {
		for k := range 33 {
			for _, n := range counts {
				d := sum(t, size, stepped(k, 11, k*5+1), stepped(n, 7, n*13+size))
				if len(d) != size {
					t.Fatalf("size %d: %d bytes", size, len(d))
				}
				fold.Write([]byte(d))
			}
		}
	}
	if d := hex.EncodeToString(fold.Sum(nil)); d != "89a608f3f865fb6144d92914ae95393a55a4d31fafb3fe64042fa84917dc9b2f" {
		t.Errorf("sizes and keys: %s", d)
	}
	fold.Reset()
	for n := range 1201 {
		fold.Write([]byte(blake.Of(upwards(n))))
		fold.Write([]byte(sum(t, 20, strings.Repeat("\x80", 17), upwards(n))))
	}
	if d := hex.EncodeToString(fold.Sum(nil)); d != "40778697b5d4a01b43a8fc91c9ad33bcc72e2e4d157cd9a8ccc1e09066408768" {
		t.Errorf("lengths: %s", d)
	}
}

// isRefused holds that neither Sum nor New takes this size and key.
func isRefused(t *testing.T, size int, key string) {
	t.Helper()
	for _, s := range []string{"", "abc", strings.Repeat("x", 200)} {
		if d, err := blake.Sum(size, key, s); d != "" || err != api.ErrArg {
			t.Errorf("Sum of size %d, a key of %d bytes: %x, %v", size, len(key), d, err)
		}
	}
	if h, err := blake.New(size, key); h != nil || err != api.ErrArg {
		t.Errorf("New of size %d, a key of %d bytes: %v, %v", size, len(key), h, err)
	}
}

func TestRefused(t *testing.T) {
	sizes := []int{math.MinInt, math.MinInt32, -33, -32, -1, 0, 33, 34, 64, 255, 256, 257, 288, 1 << 32, 1<<32 + 1, math.MaxInt}
	keys := []string{"", "k", strings.Repeat("k", 31), strings.Repeat("\x00", 32)}
	long := []string{strings.Repeat("k", 33), strings.Repeat("\x00", 33), some(64, 1), some(65, 2), some(256, 3), some(1000, 4)}
	for _, size := range sizes {
		for _, key := range append(keys, long...) {
			isRefused(t, size, key)
		}
	}
	for _, key := range long {
		for size := range 34 {
			isRefused(t, size, key)
		}
	}
}

func TestAllSizesAndKeys(t *testing.T) {
	text, key := some(130, 5), some(32, 6)
	for size := 1; size <= 32; size++ {
		for k := range 33 {
			for _, n := range []int{0, 1, 63, 64, 65, 128, 130} {
				bothWays(t, size, key[:k], text[:n])
			}
		}
	}
}

// TestSizesAndKeysTell: sums of two sizes, or by two keys, are not each other's beginnings.
func TestSizesAndKeysTell(t *testing.T) {
	for size := 8; size < 32; size++ {
		if d := sum(t, size, "k", "abc"); strings.HasPrefix(sum(t, size+1, "k", "abc"), d) {
			t.Errorf("size %d: the beginning of the next one's", size)
		}
	}
	alike := []string{"", "\x00", "\x00\x00", "k", "k\x00", strings.Repeat("\x00", 32)}
	seen := map[string]string{}
	for _, key := range alike {
		d := sum(t, 32, key, "abc")
		if other, is := seen[d]; is {
			t.Errorf("keys %q and %q: one sum", key, other)
		}
		seen[d] = key
	}
	block := "k" + strings.Repeat("\x00", 63)
	if sum(t, 32, "k", "abc") == blake.Of(block+"abc") {
		t.Error("a key is not told from bytes")
	}
}

func TestNoBytes(t *testing.T) {
	for _, key := range []string{"", "k", some(32, 7)} {
		h := begin(t, 24, key)
		isSum(t, "ahead of Add", h.Sum(), 24, key, "")
		add(t, h, "", "")
		isSum(t, "behind Adds of nothing", h.Sum(), 24, key, "")
		isSum(t, "Sum", sum(t, 24, key, ""), 24, key, "")
		add(t, h, "a")
		isSum(t, "behind an a", h.Sum(), 24, key, "a")
	}
	isSum(t, "Of", blake.Of(""), 32, "", "")
}

func TestEveryLength(t *testing.T) {
	long := some(700, 8)
	for n := range len(long) + 1 {
		bothWays(t, 32, "", long[:n])
		bothWays(t, 16, "key", long[:n])
	}
}

func TestPieceEdges(t *testing.T) {
	for pieces := range 5 {
		for _, n := range []int{0, 1, 2, 55, 56, 57, 60, 62, 63} {
			for _, fill := range []string{"\x00", "\x80", "\xff", "x"} {
				bothWays(t, 32, "", strings.Repeat(fill, pieces*64+n))
				bothWays(t, 32, fill, strings.Repeat(fill, pieces*64+n))
			}
		}
	}
}

// TestZerosCount: bytes 0 at the end are filled in, but are not the text's.
func TestZerosCount(t *testing.T) {
	for _, key := range []string{"", "k"} {
		seen := map[string]int{}
		for n := range 200 {
			d := sum(t, 32, key, strings.Repeat("\x00", n))
			if other, is := seen[d]; is {
				t.Errorf("%d and %d bytes 0: one sum", n, other)
			}
			seen[d] = n
		}
	}
}

// TestEachBit: a text of three pieces, and a key, in which one bit is set.
func TestEachBit(t *testing.T) {
	for place := range 8 * 192 {
		b := make([]byte, 192)
		b[place/8] = 1 << (place % 8)
		bothWays(t, 32, "", string(b))
		if place < 8*32 {
			bothWays(t, 32, string(b[:32]), "abc")
		}
	}
}

func TestManyTexts(t *testing.T) {
	r := rand.New(rand.NewSource(9))
	for i := range 3000 {
		seed := int64(10000 + 2*i)
		bothWays(t, 1+r.Intn(32), some(r.Intn(33), seed), some(r.Intn(500), seed+1))
	}
}

func TestLong(t *testing.T) {
	long := some(1<<20+1, 10)
	for _, n := range []int{255, 256, 257, 65535, 65536, 65537, 1<<20 - 1, 1 << 20, 1<<20 + 1} {
		bothWays(t, 32, "", long[:n])
		bothWays(t, 32, "key", long[:n])
	}
}

// TestBytesAreNoRunes: bytes that are no text of runes, or of several bytes each.
func TestBytesAreNoRunes(t *testing.T) {
	for _, s := range []string{"\xff\xfe", "\xc3", "é", "日本語", "\x00", "a\x00", "\xed\xa0\x80", "\u2028"} {
		bothWays(t, 32, "", s)
		bothWays(t, 32, s, strings.Repeat(s, 100))
	}
	isRefused(t, 32, strings.Repeat("é", 17)) // 17 runes, but 34 bytes
}

func TestNone(t *testing.T) {
	var none *blake.Hash
	var unmade blake.Hash
	refused, _ := blake.New(0, "")
	for what, h := range map[string]*blake.Hash{"nil": none, "unmade": &unmade, "new": new(blake.Hash), "literal": {}, "refused": refused} {
		for _, s := range []string{"", "abc", strings.Repeat("x", 64), strings.Repeat("x", 300)} {
			if err := h.Add(s); err != api.ErrNil {
				t.Errorf("%s: Add of %d bytes: %v", what, len(s), err)
			}
			if d := h.Sum(); d != "" {
				t.Errorf("%s: Sum: %x", what, d)
			}
		}
	}
}

func TestSumTwice(t *testing.T) {
	long := some(300, 11)
	for _, key := range []string{"", "k"} {
		for n := range len(long) + 1 {
			h := begin(t, 20, key)
			add(t, h, long[:n])
			first := h.Sum()
			for range 3 {
				if d := h.Sum(); d != first {
					t.Errorf("%d bytes: first %x, then %x", n, first, d)
				}
			}
			isSum(t, "Sum", first, 20, key, long[:n])
		}
	}
}

// TestMoreBehindSum: each sum on the way is that of the beginning that the hash has then.
func TestMoreBehindSum(t *testing.T) {
	long := some(500, 12)
	for _, key := range []string{"", some(32, 13)} {
		for _, step := range []int{1, 3, 16, 17, 31, 32, 33, 63, 64, 65, 127, 128, 129, 191, 192, 193} {
			h := begin(t, 32, key)
			for at := 0; at < len(long); at += step {
				isSum(t, "on the way", h.Sum(), 32, key, long[:at])
				add(t, h, long[at:min(at+step, len(long))])
			}
			isSum(t, "at the end", h.Sum(), 32, key, long)
		}
	}
}

// TestOnlyTheBytes is P6.3, over all ways to cut a text in two and many to cut it in three.
func TestOnlyTheBytes(t *testing.T) {
	long := some(200, 14)
	for _, key := range []string{"", "key"} {
		for _, n := range []int{0, 1, 63, 64, 65, 127, 128, 129, 191, 192, 193, 200} {
			s := long[:n]
			d := sum(t, 32, key, s)
			for i := range n + 1 {
				for j := i; j <= n; j++ {
					h := begin(t, 32, key)
					add(t, h, s[:i], "", s[i:j], s[j:])
					if h.Sum() != d {
						t.Errorf("%d bytes, cut at %d and %d", n, i, j)
					}
				}
			}
			isSum(t, "Sum", d, 32, key, s)
		}
	}
}

func TestPiecesOfAllSizes(t *testing.T) {
	r := rand.New(rand.NewSource(15))
	for round := range 400 {
		size, key := 1+r.Intn(32), some(r.Intn(33), int64(20000+round))
		s := some(r.Intn(1500), int64(30000+round))
		h, most := begin(t, size, key), 1+r.Intn(200)
		for rest := s; len(rest) > 0; {
			n := min(r.Intn(most+1), len(rest))
			add(t, h, rest[:n])
			rest = rest[n:]
			if r.Intn(8) == 0 {
				isSum(t, "on the way", h.Sum(), size, key, s[:len(s)-len(rest)])
			}
		}
		isSum(t, "pieces", h.Sum(), size, key, s)
	}
}

func TestByteByByte(t *testing.T) {
	long := some(400, 16)
	h := begin(t, 32, "k")
	for i := range len(long) {
		add(t, h, long[i:i+1])
		isSum(t, "byte by byte", h.Sum(), 32, "k", long[:i+1])
	}
}

// TestHashesApart: two hashes that are added to in turns have nothing of each other.
func TestHashesApart(t *testing.T) {
	one, two := some(900, 17), some(900, 18)
	a, b := begin(t, 32, "one"), begin(t, 16, "")
	for at := 0; at < 900; at += 50 {
		add(t, a, one[at:at+50])
		add(t, b, two[at:at+50])
		blake.Of(two[:at])
		isSum(t, "the one", a.Sum(), 32, "one", one[:at+50])
		isSum(t, "the other", b.Sum(), 16, "", two[:at+50])
	}
	isSum(t, "a new one", begin(t, 32, "").Sum(), 32, "", "")
}
