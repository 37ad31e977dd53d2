package poly_test

import (
	"crypto/sha256"
	"encoding/hex"
	"math/big"
	"math/rand"
	"strings"
	"testing"

	"isthmus/api"
	"isthmus/poly"
)

// stepped are so many bytes, from one on by a step.
func stepped(count, step, from int) string {
	b := make([]byte, count)
	for i := range b {
		b[i] = byte(i*step + from)
	}
	return string(b)
}

func zeros(count int) string { return strings.Repeat("\x00", count) }

func ones(count int) string { return strings.Repeat("\xff", count) }

// first is a byte, with bytes 0 behind it up to so many.
func first(b byte, count int) string { return string([]byte{b}) + zeros(count-1) }

// some are so many bytes, the same ones in every run.
func some(count int, seed int64) string {
	b := make([]byte, count)
	rand.New(rand.NewSource(seed)).Read(b)
	return string(b)
}

// turned is s with one bit another one.
func turned(s string, bit int) string {
	b := []byte(s)
	b[bit/8] ^= 1 << (bit % 8)
	return string(b)
}

func unhex(t *testing.T, s string) string {
	t.Helper()
	b, err := hex.DecodeString(s)
	if err != nil {
		t.Fatal(err)
	}
	return string(b)
}

func tag(t *testing.T, key, s string) string {
	t.Helper()
	u, err := poly.Tag(key, s)
	if err != api.OK || len(u) != 16 {
		t.Fatalf("key %x, %d bytes: %x, %v", key, len(s), u, err)
	}
	return u
}

func isTag(t *testing.T, key, s, want string) {
	t.Helper()
	if u := tag(t, key, s); u != want {
		t.Errorf("key %x, text %x: got %x, want %x", key, s, u, want)
	}
}

func isNoTag(t *testing.T, key, s string) {
	t.Helper()
	if u, err := poly.Tag(key, s); u != "" || err != api.ErrArg {
		t.Errorf("a key of %d bytes, %d bytes: %x, %v", len(key), len(s), u, err)
	}
}

func TestExamples(t *testing.T) {
	for _, s := range []string{"", "any text", zeros(16), ones(16), some(1000, 1)} {
		isTag(t, zeros(32), s, zeros(16))
	}
	isTag(t, first(2, 32), ones(16), first(3, 16))
	isNoTag(t, zeros(16), "")
	isNoTag(t, zeros(16), "any text")
	if poly.Same("ab", "abc") || !poly.Same("ab", "ab") {
		t.Error("Same")
	}
}

const (
	contribution = `Any submission to the IETF intended by the Contributor for publication as all or part of an IETF Internet-Draft or RFC and any statement made within the context of an IETF activity is considered an "IETF Contribution". Such statements include oral statements in IETF sessions, as well as written and electronic communications made at any time or place, which are addressed to`
	jabberwocky  = "'Twas brillig, and the slithy toves\nDid gyre and gimble in the wabe:\nAll mimsy were the borogoves,\nAnd the mome raths outgrabe."
)

// TestVectors: RFC 8439, 2.5.2 and A.3, as OpenSSL made them.
func TestVectors(t *testing.T) {
	half := "36e5f6b5c5e06070f0efca96227a863e"
	two := "01000000000000000400000000000000"
	none := hexOf(zeros(16))
	long := unhex(t, "e33594d7505e43b900000000000000003394d7505e4379cd01000000000000000000000000000000000000000000000001000000000000000000000000000000")
	for _, v := range []struct{ first, second, text, want string }{
		{"85d6be7857556d337f4452fe42d506a8", "0103808afb0db2fd4abff6af4149f51b", "Cryptographic Forum Research Group", "a8061dc1305136c6c22b8baf0c0127a9"},
		{none, none, zeros(64), none},
		{none, half, contribution, half},
		{half, none, contribution, "f3477e7cd95417af89a6b8794c310cf0"},
		{"1c9240a5eb55d38af333888604f6b5f0", "473917c1402b80099dca5cbc207075c0", jabberwocky, "4541669a7eaaee61e708dc7cbcc5eb62"},
		{hexOf(first(2, 16)), none, ones(16), "03000000000000000000000000000000"},
		{hexOf(first(2, 16)), hexOf(ones(16)), first(2, 16), "03000000000000000000000000000000"},
		{hexOf(first(1, 16)), none, ones(16) + "\xf0" + ones(15) + first(0x11, 16), "05000000000000000000000000000000"},
		{hexOf(first(1, 16)), none, ones(16) + "\xfb" + strings.Repeat("\xfe", 15) + strings.Repeat("\x01", 16), none},
		{hexOf(first(2, 16)), none, "\xfd" + ones(15), "faffffffffffffffffffffffffffffff"},
		{two, none, long, "14000000000000005500000000000000"},
		{two, none, long[:48], "13000000000000000000000000000000"},
	} {
		isTag(t, unhex(t, v.first+v.second), v.text, unhex(t, v.want))
	}
}

func isFold(t *testing.T, what, want string, texts func(put func(key, s string))) {
	t.Helper()
	fold := sha256.New()
	texts(func(key, s string) { fold.Write([]byte(tag(t, key, s))) })
	if d := hex.EncodeToString(fold.Sum(nil)); d != want {
		t.Errorf("%s: got %s, want %s", what, d, want)
	}
}

// TestFoldedTexts: tags of texts of all small lengths, of bytes of each kind, and
// of long ones, as OpenSSL made them.
func TestFoldedTexts(t *testing.T) {
	isFold(t, "texts", "2ff8e8bcf6e9d76f09c402fa4b60422ab9d5227f83b9787705448cd6a59f1f81", func(put func(key, s string)) {
		for n := range 700 {
			put(stepped(32, 11, n), stepped(n, 5, n))
		}
	})
	isFold(t, "full texts", "185e8f80be1af451c52f5effca550d1a726e5b5fada19026f741b7a4425839a1", func(put func(key, s string)) {
		for n := range 700 {
			put(ones(32), ones(n))
		}
	})
	isFold(t, "texts of bytes 0", "9c2eadae8bac88923fe1b2daaddcdd691676208e58c84a3f271b160a7610a6d9", func(put func(key, s string)) {
		for n := range 700 {
			put(stepped(32, 11, n), zeros(n))
		}
	})
	isFold(t, "texts in which one bit is another one", "9fb0987a609baa367368e26b0d7c8271b083e95d401666781577c716934e750e", func(put func(key, s string)) {
		for _, rest := range []string{zeros(64), ones(64)} {
			for bit := range 64 * 8 {
				put(stepped(32, 13, bit), turned(rest, bit))
				put(ones(32), turned(rest, bit))
			}
		}
	})
	isFold(t, "a long text", "770f3b6e70565bc25e4b4c4e4efe1fdcf56fb8e71def05c831941a97ce814f12", func(put func(key, s string)) {
		put(stepped(32, 11, 1), stepped(1<<20, 3, 1))
	})
	isFold(t, "a long text, whose last piece is not whole", "a794496b619a8b066f08887c52a5ab1ed0a9a7db3629f3dfe04477b297a5ed28", func(put func(key, s string)) {
		put(stepped(32, 11, 1), stepped(1<<20-1, 3, 1))
	})
	isFold(t, "a long text, full", "1955af928842da185a7f32d6181ba9cc23eb9a12bc0fadb04310f47ca0135c1b", func(put func(key, s string)) {
		put(ones(32), ones(1<<20+1))
	})
}

// TestFoldedKeys: tags by keys of each kind, as OpenSSL made them.
func TestFoldedKeys(t *testing.T) {
	isFold(t, "keys in which one bit is another one", "596da26e09abaaee381731a0149441b657ce506e30f917fdea91e1af809db929", func(put func(key, s string)) {
		for _, rest := range []string{zeros(32), ones(32)} {
			for _, n := range []int{1, 15, 16, 17, 100} {
				for _, s := range []string{stepped(n, 7, 1), ones(n), zeros(n)} {
					for bit := range 256 {
						put(turned(rest, bit), s)
					}
				}
			}
		}
	})
	isFold(t, "keys", "a6c822b8e8c5163b10a7b4480eaa7cb82c56dd61e22f3ce090e77b8672e951c1", func(put func(key, s string)) {
		for i := range 3000 {
			put(stepped(32, 11+i/7, i), stepped(i%97, 3, i*5))
		}
	})
	isFold(t, "small first halves", "1d2bf1b819eac3a9c68d5c9f6a99b441fd39adb10920c30755e9ca6b5274b42d", func(put func(key, s string)) {
		for i := range 1000 {
			for _, n := range []int{15, 16, 32, 33} {
				put(string([]byte{byte(i), byte(i >> 8)})+zeros(14)+stepped(16, i, i), ones(n))
			}
		}
	})
}

// TestTag: P9.1, as whole numbers have it.
func TestTag(t *testing.T) {
	for seed := range int64(3000) {
		key, s := some(32, seed), some(int(seed%200), seed+1)
		isTag(t, key, s, wantTag(key, s))
	}
	for n := range 300 {
		for _, key := range []string{some(32, int64(n)), ones(32), first(1, 32), some(16, int64(n)) + ones(16)} {
			for _, s := range []string{some(n, 1), zeros(n), ones(n)} {
				isTag(t, key, s, wantTag(key, s))
			}
		}
	}
}

// halves are first halves of keys that multiply by little, or by all that they may.
func halves() []string {
	all := []string{zeros(16), ones(16)}
	for b := range byte(9) {
		all = append(all, first(b, 16))
	}
	for _, at := range []int{3, 7, 11, 15} {
		all = append(all, zeros(at)+"\x08"+zeros(15-at), zeros(at)+"\x0f"+ones(15-at))
	}
	return append(all, "\x05"+zeros(14)+"\x08", "\xfb"+ones(15), "\xfc"+ones(15))
}

// edges are pieces at and next to the least and the greatest ones.
func edges() []string {
	var all []string
	for b := range byte(6) {
		all = append(all, first(b, 16), string([]byte{255 - b})+ones(15))
	}
	return append(all, zeros(15)+"\x80", ones(15)+"\x7f", ones(8)+zeros(8), zeros(8)+ones(8))
}

// TestFullPieces: sums that come to the prime, and next to it, on both sides.
func TestFullPieces(t *testing.T) {
	last := []string{"", "\x00", "\xff", zeros(15), ones(15)}
	for _, half := range halves() {
		for _, a := range edges() {
			for _, b := range edges() {
				for _, c := range last {
					key := half + zeros(16)
					isTag(t, key, a+c, wantTag(key, a+c))
					isTag(t, key, a+b+c, wantTag(key, a+b+c))
					isTag(t, key, ones(16)+a+b+c, wantTag(key, ones(16)+a+b+c))
				}
			}
		}
		for n := range 200 {
			key := half + ones(16)
			isTag(t, key, ones(n), wantTag(key, ones(n)))
		}
	}
}

// TestAroundThePrime: of texts whose pieces sum up to a multiple of the prime,
// or to numbers next to it, the tag is of the number below the prime.
func TestAroundThePrime(t *testing.T) {
	key := first(1, 32)
	for times := 1; times <= 20; times++ {
		for away := -40; away <= 40; away++ {
			// The bytes 1 behind the pieces make 2^130 so many times, without 2^128.
			sum := new(big.Int).Add(two128, big.NewInt(int64(away-5*times)))
			great, small := wantBytes(sum), zeros(16)
			if sum.Cmp(two128) >= 0 {
				great, small = ones(16), wantBytes(sum.Sub(sum, two128).Add(sum, one))
			}
			want := wantBytes(new(big.Int).Mod(big.NewInt(int64(away)), prime))
			rest := zeros(16 * (4*times - 3))
			for _, s := range []string{great + small + rest, small + great + rest, rest + great + small, small + rest + great} {
				isTag(t, key, s, want)
			}
		}
	}
}

// TestKeySizes: P9.1, keys of every other small length.
func TestKeySizes(t *testing.T) {
	for k := range 300 {
		for _, n := range []int{0, 1, 15, 16, 17, 100} {
			if k == 32 {
				tag(t, some(k, 1), some(n, 2))
				continue
			}
			isNoTag(t, some(k, 1), some(n, 2))
			isNoTag(t, zeros(k), zeros(n))
		}
	}
	for _, k := range []int{1 << 8, 1<<8 + 32, 1 << 16, 1<<16 + 32} {
		isNoTag(t, some(k, 1), "text")
	}
}

// TestNoText: P9.2, the tag of no text is the key's second half.
func TestNoText(t *testing.T) {
	for seed := range int64(300) {
		key := some(32, seed)
		isTag(t, key, "", key[16:])
	}
	isTag(t, ones(32), "", ones(16))
}

// TestNothingMultiplies: P9.2, of a first half of bytes 0, and of one that has
// only bits that do not count, every tag is the second half.
func TestNothingMultiplies(t *testing.T) {
	without := "\x00\x00\x00\xf0" + strings.Repeat("\x03\x00\x00\xf0", 3)
	for n := range 200 {
		second := some(16, int64(n))
		for _, s := range []string{some(n, int64(n)), zeros(n), ones(n)} {
			isTag(t, zeros(16)+second, s, second)
			isTag(t, without+second, s, second)
			isTag(t, zeros(16)+ones(16), s, ones(16))
		}
	}
}

// TestBitsOfTheFirstHalf: which of them count.
func TestBitsOfTheFirstHalf(t *testing.T) {
	for seed := range int64(20) {
		key, s := some(32, seed), some(1+int(seed)*5, seed)
		before := tag(t, key, s)
		for bit := range 128 {
			counts := mask.Bit(bit) == 1
			if same := tag(t, turned(key, bit), s) == before; same == counts {
				t.Errorf("seed %d, bit %d: counts is not %v", seed, bit, counts)
			}
		}
	}
}

// TestSecondHalf: it is added at the end, and what goes above 16 bytes is left.
func TestSecondHalf(t *testing.T) {
	seconds := []string{first(1, 16), ones(16), zeros(15) + "\x80", ones(8) + zeros(8), zeros(8) + ones(8)}
	for seed := range int64(200) {
		half, s := some(16, seed), some(int(seed), seed+1)
		sum := wantNumber(tag(t, half+zeros(16), s))
		back := wantBytes(new(big.Int).Sub(two128, sum))
		for _, second := range append(seconds, some(16, seed+2), back) {
			want := wantBytes(new(big.Int).Add(sum, wantNumber(second)))
			isTag(t, half+second, s, want)
		}
		isTag(t, half+back, s, zeros(16))
	}
}

// TestTextsDiffer: texts that are unlike in a bit, or in bytes 0 or 1 at an end,
// have unlike tags.
func TestTextsDiffer(t *testing.T) {
	key := some(32, 1)
	for n := range 70 {
		s := some(n, int64(n))
		before := tag(t, key, s)
		others := []string{s + "\x00", "\x00" + s, s + "\x01", s + zeros(16), zeros(16) + s}
		for bit := range 8 * n {
			others = append(others, turned(s, bit))
		}
		for _, other := range others {
			if tag(t, key, other) == before {
				t.Errorf("%x and %x have one tag", s, other)
			}
		}
	}
	seen := map[string]int{}
	for n := range 200 {
		u := tag(t, key, zeros(n))
		if before, is := seen[u]; is {
			t.Errorf("%d and %d bytes 0 have one tag", before, n)
		}
		seen[u] = n
	}
}

func TestSame(t *testing.T) {
	is := func(a, b string, want bool) {
		t.Helper()
		if poly.Same(a, b) != want || poly.Same(b, a) != want {
			t.Errorf("%x and %x: not %v", a, b, want)
		}
	}
	for n := range 70 {
		s := some(n, int64(n))
		is(s, strings.Clone(s), true)
		is(zeros(n), zeros(n), true)
		for bit := range 8 * n {
			is(s, turned(s, bit), false)
			is(zeros(n), turned(zeros(n), bit), false)
		}
		for m := range n {
			is(s, s[:m], false)
			is(zeros(n), zeros(m), false)
			is(s, s[n-m:], false)
		}
		is(s, s+"\x00", false)
		is(s, s+zeros(256), false)
		is(s, s+s+"x", false)
	}
	// differences that take each other away
	is("\x01\x01", "\x02\x02", false)
	is("ab", "ba", false)
	is("\x80\x80", "\x00\x00", false)
	is("", "", true)
	is("", zeros(1<<16), false)
	long := some(1<<16, 1)
	is(long, strings.Clone(long), true)
	is(long, turned(long, 8<<16-1), false)
	is(long, turned(long, 0), false)
}

// TestNothingIsKept: R6, an answer hangs on nothing that was asked before.
func TestNothingIsKept(t *testing.T) {
	key, s := some(32, 1), some(300, 2)
	before := tag(t, key, s)
	isNoTag(t, key[1:], s)
	tag(t, ones(32), ones(100))
	tag(t, key, "")
	poly.Same(key, s)
	isTag(t, key, s, before)
}
