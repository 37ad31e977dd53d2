package aead_test

import (
	"crypto/sha256"
	"encoding/hex"
	"math/rand"
	"strings"
	"testing"

	"isthmus/aead"
	"isthmus/api"
)

const most = 1 << 16

// stepped are so many bytes, from one on by a step.
func stepped(count, step, from int) string {
	b := make([]byte, count)
	for i := range b {
		b[i] = byte(i*step + from)
	}
	return string(b)
}

func zeros(count int) string { return strings.Repeat("\x00", count) }

func ones(count int) string { return strings.Repeat("\xff", count) }

// some are so many bytes, the same ones in every run.
func some(count int, seed int64) string {
	b := make([]byte, count)
	rand.New(rand.NewSource(seed)).Read(b)
	return string(b)
}

// with is s, one byte of it exclusive or another one.
func with(s string, at int, by byte) string {
	b := []byte(s)
	b[at] ^= by
	return string(b)
}

// turned is s with one bit another one.
func turned(s string, bit int) string { return with(s, bit/8, 1<<(bit%8)) }

func unhex(t *testing.T, s string) string {
	t.Helper()
	b, err := hex.DecodeString(s)
	if err != nil {
		t.Fatal(err)
	}
	return string(b)
}

// box is what a text is sealed by.
type box struct{ key, nonce, ad string }

// boxOf is a box with so many bytes beside the text.
func boxOf(ad int, seed int64) box {
	return box{some(32, seed), some(12, seed+1), some(ad, seed+2)}
}

func (b box) seal(t *testing.T, s string) string {
	t.Helper()
	c, err := aead.Seal(b.key, b.nonce, b.ad, s)
	if err != api.OK || len(c) != len(s)+16 {
		t.Fatalf("Seal of key %x, nonce %x, %d bytes, %d beside: %d bytes, %v", b.key, b.nonce, len(s), len(b.ad), len(c), err)
	}
	return c
}

func (b box) opens(t *testing.T, c, want string) {
	t.Helper()
	s, err := aead.Open(b.key, b.nonce, b.ad, c)
	if err != api.OK || s != want {
		t.Errorf("Open of key %x, nonce %x, %d bytes, %d beside: %d bytes, %v", b.key, b.nonce, len(c), len(b.ad), len(s), err)
	}
}

func (b box) opensNot(t *testing.T, c string, want api.Errno) {
	t.Helper()
	if s, err := aead.Open(b.key, b.nonce, b.ad, c); s != "" || err != want {
		t.Errorf("Open of a key of %d bytes, a nonce of %d, %d bytes, %d beside: %d bytes, %v, not %v", len(b.key), len(b.nonce), len(c), len(b.ad), len(s), err, want)
	}
}

func (b box) sealsNot(t *testing.T, s string, want api.Errno) {
	t.Helper()
	if c, err := aead.Seal(b.key, b.nonce, b.ad, s); c != "" || err != want {
		t.Errorf("Seal of a key of %d bytes, a nonce of %d, %d bytes, %d beside: %d bytes, %v, not %v", len(b.key), len(b.nonce), len(s), len(b.ad), len(c), err, want)
	}
}

func TestExamples(t *testing.T) {
	b := box{strings.Repeat("k", 32), aead.Nonce(258), "ad"}
	c := b.seal(t, "abc")
	if len(c) != 19 {
		t.Errorf("%d bytes", len(c))
	}
	b.opens(t, c, "abc")
	b.opensNot(t, c[:15], api.ErrOpen)
	box{b.key, b.nonce, "da"}.opensNot(t, c, api.ErrOpen)
	if n := aead.Nonce(258); n != "\x00\x00\x00\x00\x02\x01\x00\x00\x00\x00\x00\x00" {
		t.Errorf("%x", n)
	}
}

const (
	sunscreen = "Ladies and Gentlemen of the class of '99: If I could offer you only one tip for the future, sunscreen would be it."
	drafts    = "Internet-Drafts are draft documents valid for a maximum of six months and may be updated, replaced, or obsoleted by other documents at any time. It is inappropriate to use Internet-Drafts as reference material or to cite them other than as /\u201cwork in progress./\u201d"
)

// TestVectors: RFC 8439, 2.8.2 and A.5, and others, as OpenSSL made them.
func TestVectors(t *testing.T) {
	up := stepped(32, 1, 0)
	for _, v := range []struct {
		box
		text, want string
	}{
		// those of the RFC
		{box{stepped(32, 1, 0x80), unhex(t, "070000004041424344454647"), unhex(t, "50515253c0c1c2c3c4c5c6c7")}, sunscreen,
			"d31a8d34648e60db7b86afbc53ef7ec2a4aded51296e08fea9e2b5a736ee62d63dbea45e8ca9671282fafb69da92728b1a71de0a9e060b2905d6a5b67ecd3b3692ddbd7f2d778b8c9803aee328091b58fab324e4fad675945585808b4831d7bc3ff4def08e4b7a9de576d26586cec64b61161ae10b594f09e26a7e902ecbd0600691"},
		{box{unhex(t, "1c9240a5eb55d38af333888604f6b5f0473917c1402b80099dca5cbc207075c0"), unhex(t, "000000000102030405060708"), unhex(t, "f33388860000000000004e91")}, drafts,
			"64a0861575861af460f062c79be643bd5e805cfd345cf389f108670ac76c8cb24c6cfc18755d43eea09ee94e382d26b0bdb7b73c321b0100d4f03b7f355894cf332f830e710b97ce98c8a84abd0b948114ad176e008d33bd60f982b1ff37c8559797a06ef4f0ef61c186324e2b3506383606907b6a7c02b0f9f6157b53c867e4b9166c767b804d46a59b5216cde7a4e99040c5a40433225ee282a1b0a06c523eaf4534d7f83fa1155b0047718cbc546a0d072b04b3564eea1b422273f548271a0bb2316053fa76991955ebd63159434ecebb4e466dae5a1073a6727627097a1049e617d91d361094fa68f0ff77987130305beaba2eda04df997b714d6c6f2c29a6ad5cb4022b02709beead9d67890cbb22392336fea1851f38"},
		// those of OpenSSL
		{box{zeros(32), zeros(12), ""}, "", "4eb972c9a8fb3a1b382bb4d36f5ffad1"},
		{box{up, up[:12], ""}, "", "295a498b8841a1c5f55d4d606f731159"},
		{box{up, up[:12], ""}, "abc", "e8996bdbe97d036a9b815bccbdf1a8e87ec37f"},
		{box{up, up[:12], "abc"}, "", "7bf39c476ec8b743e78d0dcce718f362"},
		{box{up, up[:12], "abc"}, "abc", "e8996b7466e429c7746d903f1dce45c70deb80"},
		{box{strings.Repeat("k", 32), aead.Nonce(258), "ad"}, "abc", "806b6d7a561828e7eff140b5ad1bd18d03c881"},
		{box{ones(32), ones(12), ones(16)}, ones(64),
			"22d8bfc313e141bd692c82cec7785b295f8ddae08dbbc49a2deb545ef8a39534d8c0bdab2521070568ade0405d54eebcfecd35122cb5133d931f64722e053522c0da86b8caefdc0d1546b1d2ade737f3"},
	} {
		if c := v.seal(t, v.text); c != unhex(t, v.want) {
			t.Errorf("%q: got %x, want %s", v.text, c, v.want)
		}
		v.opens(t, unhex(t, v.want), v.text)
	}
}

// isFold: what is sealed, one behind the other, digested; and all of it opens.
func isFold(t *testing.T, what, want string, texts func(put func(b box, s string))) {
	t.Helper()
	fold := sha256.New()
	texts(func(b box, s string) {
		c := b.seal(t, s)
		b.opens(t, c, s)
		fold.Write([]byte(c))
	})
	if d := hex.EncodeToString(fold.Sum(nil)); d != want {
		t.Errorf("%s: got %s, want %s", what, d, want)
	}
}

// TestFoldedLengths: texts of every small length with texts of every small length
// beside them, as OpenSSL made them.
func TestFoldedLengths(t *testing.T) {
	isFold(t, "lengths", "fcf0101c370f44cc161a05ab7f0e410775fb9f1f238189bd818f5b945c154f68", func(put func(b box, s string)) {
		for a := range 70 {
			for n := range 270 {
				put(box{stepped(32, 11, n+a), stepped(12, 7, 3*n+a), stepped(a, 5, n)}, stepped(n, 3, a))
			}
		}
	})
	isFold(t, "bytes 0", "b421257c7b9273f54c96044cc77db9c5d2fa9f2a0f1e5cf34839c153ee950a28", func(put func(b box, s string)) {
		for a := range 40 {
			for n := range 140 {
				put(box{stepped(32, 11, n+a), stepped(12, 7, 3*n+a), zeros(a)}, zeros(n))
			}
		}
	})
	isFold(t, "bytes 255", "875446cf22052b2afddaae3ccbff72df931917050e7ac75eb783515d1f00f7db", func(put func(b box, s string)) {
		for a := range 40 {
			for n := range 140 {
				put(box{ones(32), ones(12), ones(a)}, ones(n))
			}
		}
	})
	isFold(t, "700 bytes in all", "bbed5351b38d73322d839e52d8be82bc5b8c6298cc188c4e55345e84d07476fb", func(put func(b box, s string)) {
		for n := range 700 {
			put(box{stepped(32, 13, n), stepped(12, 5, n), stepped(n, 3, n)}, stepped(699-n, 5, n))
		}
	})
}

// TestFoldedKeys: keys, nonces, and nonces of numbers, in which one bit is another
// one, and numbers next to these, as OpenSSL made them.
func TestFoldedKeys(t *testing.T) {
	isFold(t, "keys", "eacad597adf0d18879d352c5a41733f992c4971ca476f8e8ddd919f9485eec8f", func(put func(b box, s string)) {
		for _, rest := range []string{zeros(32), ones(32)} {
			for bit := range 256 {
				put(box{turned(rest, bit), stepped(12, 7, bit), stepped(20, 3, bit)}, stepped(70, 5, bit))
			}
		}
	})
	isFold(t, "nonces", "4262a3d92ad52e44317a1618899ba254e3c0b75010543697b67f4bd840b6527f", func(put func(b box, s string)) {
		for _, rest := range []string{zeros(12), ones(12)} {
			for bit := range 96 {
				put(box{stepped(32, 7, bit), turned(rest, bit), stepped(20, 3, bit)}, stepped(70, 5, bit))
			}
		}
	})
	isFold(t, "numbers", "cf52fb7e5c0d63172f7ba7f73af688ec99e987f477143deb3b53b975b68ef70a", func(put func(b box, s string)) {
		for bit := range 64 {
			for near := range uint64(5) {
				put(box{stepped(32, 7, bit), aead.Nonce(1<<bit + near - 2), stepped(20, 3, bit)}, stepped(70, 5, bit))
			}
		}
	})
}

// TestFoldedBounds: texts, and texts beside them, at the bound and below it, as
// OpenSSL made them.
func TestFoldedBounds(t *testing.T) {
	isFold(t, "long texts", "f7cff7b67147733281be3245e732f62fca16616c4d4483f7fc726911a99da89b", func(put func(b box, s string)) {
		for _, a := range []int{0, 1, most - 17, most - 16, most - 15, most - 1, most} {
			for _, n := range []int{0, 1, most - 65, most - 64, most - 63, most - 1, most} {
				put(box{stepped(32, 7, a+n), stepped(12, 5, a+n), stepped(a, 3, n)}, stepped(n, 5, a))
			}
		}
	})
	isFold(t, "all bytes 255", "c15dc2df21d2fd4c7bfaf10b1e5ef41f1d22117ee89372067ba8cb66fa4fa6e9", func(put func(b box, s string)) {
		put(box{ones(32), ones(12), ones(most)}, ones(most))
	})
}

// TestSeal: P10.1, as the chapter written once more has it.
func TestSeal(t *testing.T) {
	for seed := range int64(2000) {
		b, s := boxOf(int(seed%83), seed), some(int(seed*7%391), seed+3)
		if c := b.seal(t, s); c != wantSealed(b.key, b.nonce, b.ad, s) {
			t.Errorf("seed %d: %x", seed, c)
		}
	}
}

// TestOpen: P10.2, whatever ends with its tag opens, whoever made it, as that
// turned, and opens with no other tag.
func TestOpen(t *testing.T) {
	for seed := range int64(500) {
		b, c := boxOf(int(seed*5%91), seed), some(int(seed%300), seed+3)
		tag := wantTag(b.key, b.nonce, b.ad, c)
		b.opens(t, c+tag, wantTurned(b.key, b.nonce, c))
		for _, other := range []string{zeros(16), ones(16), some(16, seed), tag[1:] + tag[:1], tag[:15] + "\x00\x00", tag + tag} {
			b.opensNot(t, c+other, api.ErrOpen)
		}
	}
}

// TestKeyAndNonceSizes: ErrArg, of keys and nonces of every other small length,
// ahead of all else.
func TestKeyAndNonceSizes(t *testing.T) {
	long := zeros(most + 17)
	for k := range 100 {
		for n := range 50 {
			if k == 32 && n == 12 {
				continue
			}
			b := box{some(k, 1), some(n, 2), "ad"}
			for _, s := range []string{"", "text", zeros(15), zeros(16), long} {
				b.sealsNot(t, s, api.ErrArg)
				b.opensNot(t, s, api.ErrArg)
				box{b.key, b.nonce, long}.sealsNot(t, s, api.ErrArg)
				box{b.key, b.nonce, long}.opensNot(t, s, api.ErrArg)
			}
		}
	}
	for _, size := range []int{1 << 8, 1<<8 + 12, 1<<8 + 32, 1 << 16, 1<<16 + 12, 1<<16 + 32} {
		for _, b := range []box{{some(size, 1), zeros(12), ""}, {zeros(32), some(size, 1), ""}} {
			b.sealsNot(t, "text", api.ErrArg)
			b.opensNot(t, zeros(20), api.ErrArg)
		}
	}
	// what would open with a key and a nonce of their sizes
	b := boxOf(3, 1)
	c := b.seal(t, "text")
	for _, other := range []box{{b.key[:31], b.nonce, b.ad}, {b.key + "\x00", b.nonce, b.ad}, {b.key, b.nonce[:11], b.ad}, {b.key, b.nonce + "\x00", b.ad}, {b.nonce, b.key, b.ad}, {b.key + b.nonce, "", b.ad}} {
		other.opensNot(t, c, api.ErrArg)
	}
}

// TestBounds: P10.1, P10.2, ErrLong, one byte above the bound and further.
func TestBounds(t *testing.T) {
	b := boxOf(most, 1)
	c := b.seal(t, some(most, 4))
	b.opens(t, c, some(most, 4))
	for at := most - 1; at < most+16; at++ {
		b.opensNot(t, with(c, at, 1), api.ErrOpen)
	}
	for _, more := range []int{1, 2, 15, 16, 17, 32, most, 1 << 20} {
		above := boxOf(most+more, 1)
		for _, n := range []int{0, 1, 15, 16, 100, most, most + 1, most + 16, most + 17} {
			above.sealsNot(t, zeros(n), api.ErrLong)
			above.opensNot(t, zeros(n), api.ErrLong)
		}
		for _, ad := range []string{"", "ad", b.ad} {
			box{b.key, b.nonce, ad}.sealsNot(t, zeros(most+more), api.ErrLong)
			box{b.key, b.nonce, ad}.opensNot(t, zeros(most+16+more), api.ErrLong)
		}
		// not even with its tag
		ad := some(most+more, 1)
		box{b.key, b.nonce, ad}.opensNot(t, wantSealed(b.key, b.nonce, ad, "text"), api.ErrLong)
		b.opensNot(t, wantSealed(b.key, b.nonce, b.ad, zeros(most+more)), api.ErrLong)
	}
	for more := range 17 {
		b.opensNot(t, zeros(most+more), api.ErrOpen)
	}
}

// TestShort: P10.2, ErrOpen of fewer than 16 bytes, and of no more than these.
func TestShort(t *testing.T) {
	for _, size := range []int{0, 1, 16, 100, most} {
		b := boxOf(size, int64(size))
		tag := b.seal(t, "")
		b.opens(t, tag, "")
		for n := range 16 {
			for _, s := range []string{zeros(n), ones(n), tag[:n], tag[16-n:], some(n, 1)} {
				b.opensNot(t, s, api.ErrOpen)
			}
		}
		for bit := range 128 {
			b.opensNot(t, turned(tag, bit), api.ErrOpen)
		}
		b.opensNot(t, tag+"\x00", api.ErrOpen)
		b.opensNot(t, "\x00"+tag, api.ErrOpen)
	}
}

// TestNonce: P10.3.
func TestNonce(t *testing.T) {
	is := func(n uint64, want string) {
		t.Helper()
		if got := aead.Nonce(n); got != zeros(4)+want {
			t.Errorf("%d: got %x, want %x", n, got, want)
		}
	}
	is(0, zeros(8))
	is(1, "\x01"+zeros(7))
	is(1<<64-1, ones(8))
	is(1<<64-2, "\xfe"+ones(7))
	is(0x0807060504030201, "\x01\x02\x03\x04\x05\x06\x07\x08")
	is(0xf8f7f6f5f4f3f2f1, "\xf1\xf2\xf3\xf4\xf5\xf6\xf7\xf8")
	for at := range 8 {
		for b := range 256 {
			is(uint64(b)<<(8*at), zeros(at)+string([]byte{byte(b)})+zeros(7-at))
		}
		is(1<<(8*at)-1, ones(at)+zeros(8-at))
	}
	for seed := range int64(1000) {
		s := some(8, seed)
		var n uint64
		for i := range 8 {
			n = n<<8 | uint64(s[7-i])
		}
		is(n, s)
	}
}

// TestNonces: of unlike numbers, also next to each other, at the edges, one seals
// otherwise than the other, and does not open what the other sealed.
func TestNonces(t *testing.T) {
	numbers := []uint64{0, 1, 2, 255, 256, 1<<32 - 1, 1 << 32, 1<<32 + 1, 1<<60 - 1, 1 << 60, 1<<63 - 1, 1 << 63, 1<<64 - 2, 1<<64 - 1}
	key := some(32, 1)
	for _, n := range numbers {
		b := box{key, aead.Nonce(n), "ad"}
		c := b.seal(t, "text")
		if c != wantSealed(key, b.nonce, "ad", "text") {
			t.Errorf("%d: %x", n, c)
		}
		for _, m := range numbers {
			other := box{key, aead.Nonce(m), "ad"}
			if m == n {
				other.opens(t, c, "text")
				continue
			}
			other.opensNot(t, c, api.ErrOpen)
		}
	}
}

// TestTurnedBytes: P10.4, of small texts each byte of what was sealed and of what
// stands beside, turned by each other one.
func TestTurnedBytes(t *testing.T) {
	for _, size := range [][2]int{{0, 0}, {0, 3}, {3, 0}, {5, 20}, {16, 16}, {17, 33}} {
		b, s := boxOf(size[0], 1), some(size[1], 4)
		c := b.seal(t, s)
		for by := 1; by < 256; by++ {
			for at := range c {
				b.opensNot(t, with(c, at, byte(by)), api.ErrOpen)
			}
			for at := range b.ad {
				box{b.key, b.nonce, with(b.ad, at, byte(by))}.opensNot(t, c, api.ErrOpen)
			}
		}
		b.opens(t, c, s)
	}
}

// TestTurnedBits: P10.4, of all lengths each bit of both; and of the key and nonce.
func TestTurnedBits(t *testing.T) {
	for n := range 80 {
		b, s := boxOf(n*7%81, int64(n)), some(n, int64(n)+4)
		c := b.seal(t, s)
		for bit := range 8 * len(c) {
			b.opensNot(t, turned(c, bit), api.ErrOpen)
		}
		for bit := range 8 * len(b.ad) {
			box{b.key, b.nonce, turned(b.ad, bit)}.opensNot(t, c, api.ErrOpen)
		}
		for bit := range 256 {
			box{turned(b.key, bit), b.nonce, b.ad}.opensNot(t, c, api.ErrOpen)
		}
		for bit := range 96 {
			box{b.key, turned(b.nonce, bit), b.ad}.opensNot(t, c, api.ErrOpen)
		}
	}
}

// TestCutAndMoved: what was sealed, or stands beside, with bytes more or fewer, or
// with bytes of the one in the other, does not open.
func TestCutAndMoved(t *testing.T) {
	for _, fill := range []func(int, int64) string{some, func(n int, _ int64) string { return zeros(n) }} {
		for n := range 50 {
			b := box{some(32, 1), some(12, 2), fill(n*3%50, 3)}
			c := b.seal(t, fill(n, 4))
			for cut := 1; cut <= len(c); cut++ {
				b.opensNot(t, c[:len(c)-cut], api.ErrOpen)
				b.opensNot(t, c[cut:], api.ErrOpen)
				box{b.key, b.nonce, b.ad + c[:cut]}.opensNot(t, c[cut:], api.ErrOpen)
				b.opensNot(t, c+zeros(cut), api.ErrOpen)
				b.opensNot(t, zeros(cut)+c, api.ErrOpen)
				b.opensNot(t, c[:n]+zeros(cut)+c[n:], api.ErrOpen)
				box{b.key, b.nonce, b.ad + zeros(cut)}.opensNot(t, c, api.ErrOpen)
				box{b.key, b.nonce, zeros(cut) + b.ad}.opensNot(t, c, api.ErrOpen)
			}
			for cut := 1; cut <= len(b.ad); cut++ {
				rest, end := b.ad[:len(b.ad)-cut], b.ad[len(b.ad)-cut:]
				box{b.key, b.nonce, rest}.opensNot(t, c, api.ErrOpen)
				box{b.key, b.nonce, rest}.opensNot(t, end+c, api.ErrOpen)
			}
		}
	}
}

// TestSameTag: P10.4, what is turned opens, as what it then is, if the tag is the
// same: who knows the key makes such pieces.
func TestSameTag(t *testing.T) {
	made := 0
	for seed := range int64(200) {
		b, s := boxOf(16, seed), some(32, seed+3)
		c := b.seal(t, s)
		if second, is := wantSecond(b.key, b.nonce, c[:16], c[16:32], b.ad); is {
			made++
			other := b.ad + second + c[32:]
			if other == c {
				t.Fatalf("seed %d: nothing is turned", seed)
			}
			b.opens(t, other, wantTurned(b.key, b.nonce, other[:32]))
			b.opensNot(t, turned(other, int(seed)), api.ErrOpen)
		}
		if first, is := wantSecond(b.key, b.nonce, b.ad, c[:16], s[:16]); is {
			made++
			other, sealed := box{b.key, b.nonce, s[:16]}, first+c[16:]
			other.opens(t, sealed, wantTurned(b.key, b.nonce, sealed[:32]))
			b.opensNot(t, sealed, api.ErrOpen)
		}
	}
	if made < 20 {
		t.Errorf("only %d pairs have one tag", made)
	}
}

// TestSizes: R1, R2, all sizes around the edges, in every row of them.
func TestSizes(t *testing.T) {
	text := some(most+40, 1)
	for _, k := range []int{0, 12, 31, 32, 33, 64} {
		for _, n := range []int{0, 8, 11, 12, 13, 24, 32} {
			for _, a := range []int{0, 1, 16, most, most + 1, most + 16, most + 17} {
				for _, size := range []int{0, 1, 15, 16, 17, most, most + 1, most + 15, most + 16, most + 17} {
					b, s := box{text[:k], text[:n], text[:a]}, text[:size]
					if err := wantFault(k, n, a, size, 0); err != api.OK {
						b.sealsNot(t, s, err)
					} else {
						b.opens(t, b.seal(t, s), s)
					}
					err := wantFault(k, n, a, size, 16)
					if err == api.OK {
						err = api.ErrOpen // they are no sealed text
					}
					b.opensNot(t, s, err)
				}
			}
		}
	}
}

// TestNothingIsKept: R6, an answer hangs on nothing that was asked before.
func TestNothingIsKept(t *testing.T) {
	b, s := boxOf(30, 1), some(300, 4)
	c := b.seal(t, s)
	for range 3 {
		b.opensNot(t, turned(c, 7), api.ErrOpen)
		b.opensNot(t, c[:15], api.ErrOpen)
		b.sealsNot(t, zeros(most+1), api.ErrLong)
		box{b.key[1:], b.nonce, b.ad}.sealsNot(t, s, api.ErrArg)
		boxOf(5, 9).seal(t, "another text")
		aead.Nonce(1<<64 - 1)
		if b.seal(t, s) != c {
			t.Error("the same text is sealed otherwise")
		}
		b.opens(t, c, s)
		b.opens(t, strings.Clone(c), s)
	}
}
