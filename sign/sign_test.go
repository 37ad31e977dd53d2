package sign_test

import (
	"crypto/ed25519"
	"crypto/sha256"
	"encoding/hex"
	"math/big"
	"math/rand"
	"strings"
	"testing"

	"isthmus/api"
	"isthmus/edw"
	"isthmus/sign"
)

// stepped are so many bytes, from one on by a step.
func stepped(count, step, from int) string {
	b := make([]byte, count)
	for i := range b {
		b[i] = byte(i*step + from)
	}
	return string(b)
}

func zeros(count int) string { return strings.Repeat("\x00", count) }

func ones(count int) string { return strings.Repeat("\xff", count) }

// some are so many bytes, the same ones in every run.
func some(count int, seed int64) string {
	b := make([]byte, count)
	rand.New(rand.NewSource(seed)).Read(b)
	return string(b)
}

// with is s, one byte of it exclusive or another one.
func with(s string, at int, by byte) string {
	b := []byte(s)
	b[at] ^= by
	return string(b)
}

// turned is s with one bit another one.
func turned(s string, bit int) string { return with(s, bit/8, 1<<(bit%8)) }

func unhex(t *testing.T, s string) string {
	t.Helper()
	b, err := hex.DecodeString(s)
	if err != nil {
		t.Fatal(err)
	}
	return string(b)
}

// signed are the public key and the signature.
func signed(t *testing.T, secret, s string) (string, string) {
	t.Helper()
	p, err := sign.Public(secret)
	if err != api.OK || len(p) != 32 {
		t.Fatalf("Public of %x: %d bytes, %v", secret, len(p), err)
	}
	x, err := sign.Sign(secret, s)
	if err != api.OK || len(x) != 64 {
		t.Fatalf("Sign of %x, %d bytes: %d bytes, %v", secret, len(s), len(x), err)
	}
	return p, x
}

// verifies holds Verify against what is wanted, and that against P11.2.
func verifies(t *testing.T, what, public, s, signature string, want bool) {
	t.Helper()
	if wantVerified(public, s, signature) != want {
		t.Fatalf("%s: the test wants something else than P11.2", what)
	}
	if sign.Verify(public, s, signature) != want {
		t.Errorf("%s: Verify of %x, %x, %x: not %v", what, public, s, signature, want)
	}
}

// refuses holds Public and Sign against what is wanted of a secret of another size.
func refuses(t *testing.T, secret, s string) {
	t.Helper()
	if p, err := sign.Public(secret); p != "" || err != api.ErrArg {
		t.Errorf("Public of %d bytes: %x, %v", len(secret), p, err)
	}
	if x, err := sign.Sign(secret, s); x != "" || err != api.ErrArg {
		t.Errorf("Sign by %d bytes: %x, %v", len(secret), x, err)
	}
}

func TestExamples(t *testing.T) {
	p, x := signed(t, strings.Repeat("k", 32), "abc")
	verifies(t, "what was signed", p, "abc", x, true)
	verifies(t, "L added", p, "abc", x[:32]+text(new(big.Int).Add(value(x[32:]), whole)), false)
	refuses(t, strings.Repeat("k", 31), "abc")
}

// TestVectors: RFC 8032, 7.1, but its text of 1023 bytes. The RFC was not at hand:
// they are from memory, the last one's public key from OpenSSL. The first three
// stand so in the tests of crypto/ed25519, and OpenSSL signs the last one so.
func TestVectors(t *testing.T) {
	for _, v := range []struct{ secret, public, text, want string }{
		{"9d61b19deffd5a60ba844af492ec2cc44449c5697b326919703bac031cae7f60", "d75a980182b10ab7d54bfed3c964073a0ee172f3daa62325af021a68f707511a", "",
			"e5564300c360ac729086e2cc806e828a84877f1eb8e5d974d873e065224901555fb8821590a33bacc61e39701cf9b46bd25bf5f0595bbe24655141438e7a100b"},
		{"4ccd089b28ff96da9db6c346ec114e0f5b8a319f35aba624da8cf6ed4fb8a6fb", "3d4017c3e843895a92b70aa74d1b7ebc9c982ccf2ec4968cc0cd55f12af4660c", "72",
			"92a009a9f0d4cab8720e820b5f642540a2b27b5416503f8fb3762223ebdb69da085ac1e43e15996e458f3613d0f11d8c387b2eaeb4302aeeb00d291612bb0c00"},
		{"c5aa8df43f9f837bedb7442f31dcb7b166d38535076f094b85ce3a2e0b4458f7", "fc51cd8e6218a1a38da47ed00230f0580816ed13ba3303ac5deb911548908025", "af82",
			"6291d657deec24024827e69c3abe01a30ce548a284743a445e3680d7db5ac3ac18ff9b538d16f290ae67f760984dc6594a7c15e9716ed28dc027beceea1ec40a"},
		{"833fe62409237b9d62ec77587520911e9a759cec1d19755b7da901b96dca3d42", "ec172b93ad5e563bf4932c70e1245034c35467ef2efd4d64ebf819683467e2bf", "ddaf35a193617abacc417349ae20413112e6fa4e89a97ea20a9eeee64b55d39a2192992a274fc1a836ba3c23a3feebbd454d4423643ce80e2a9ac94fa54ca49f",
			"dc2a4459e7369633a52b1bf277839a00201009a3efbf3ecb69bea2186c26b58909351fc9ac90b3ecfdfbc7c66431e0303dca179c138ac17ad9bef1177331a704"},
	} {
		p, x := signed(t, unhex(t, v.secret), unhex(t, v.text))
		if p != unhex(t, v.public) || x != unhex(t, v.want) {
			t.Errorf("%s: got %x, %x, want %s, %s", v.secret, p, x, v.public, v.want)
		}
		verifies(t, "RFC 8032's", unhex(t, v.public), unhex(t, v.text), unhex(t, v.want), true)
	}
}

// isFold: public keys and signatures, one behind the other, digested; and all of
// them are verified.
func isFold(t *testing.T, what, want string, texts func(put func(secret, s string))) {
	t.Helper()
	fold := sha256.New()
	texts(func(secret, s string) {
		p, x := signed(t, secret, s)
		verifies(t, what, p, s, x, true)
		fold.Write([]byte(p + x))
	})
	if d := hex.EncodeToString(fold.Sum(nil)); d != want {
		t.Errorf("%s: got %s, want %s", what, d, want)
	}
}

// TestFoldedLengths: P11.1, P11.3, texts of every small length and some long ones,
// as OpenSSL signs them.
func TestFoldedLengths(t *testing.T) {
	isFold(t, "lengths", "f3407759599f56f839190c07ed155a7d0a9906461dd0442cf5af486b4ab4f530", func(put func(secret, s string)) {
		for n := range 600 {
			put(stepped(32, 7, n), stepped(n, 3, n))
		}
	})
	isFold(t, "bytes 0", "782b31a8d027c8b26c144e2acb3b295705aa328f56d58c0f3bf2cb66a34fe9b7", func(put func(secret, s string)) {
		for n := range 300 {
			put(zeros(32), zeros(n))
		}
	})
	isFold(t, "bytes 255", "249afaf7b06af32a0f615f875041c108c5cce2240edb58556a818ba03b91770c", func(put func(secret, s string)) {
		for n := range 300 {
			put(ones(32), ones(n))
		}
	})
	isFold(t, "long texts", "825c09b7df91ed46a6f14f3b3b26ec31db098e9a4450d49000eb0abdd92e7659", func(put func(secret, s string)) {
		for _, n := range []int{1023, 1024, 1025, 65535, 65536, 65537, 1 << 20} {
			put(stepped(32, 5, n), stepped(n, 11, n>>8))
		}
	})
}

// TestFoldedSecrets: secrets in which one bit is another one, and all texts of one
// byte, as OpenSSL signs by them.
func TestFoldedSecrets(t *testing.T) {
	isFold(t, "secrets", "ac20133a4e719d5d75b68f12bc6fd1224b20b2e76d1f6768ce8c21367f2eb914", func(put func(secret, s string)) {
		for _, rest := range []string{zeros(32), ones(32)} {
			for bit := range 256 {
				put(turned(rest, bit), stepped(bit%7, 5, bit))
			}
		}
	})
	isFold(t, "texts of one byte", "59b2a45503ab9917c090384138b9d37d46eda011e475ba68dacfe4b05b1a4792", func(put func(secret, s string)) {
		for b := range 256 {
			put(stepped(32, 1, 0), string([]byte{byte(b)}))
		}
	})
}

// TestSigned: P11.1 and P11.3, as crypto/ed25519 signs.
func TestSigned(t *testing.T) {
	for seed := range int64(600) {
		secret, s := some(32, seed), some(int(seed*5%307), seed+1)
		p, x := signed(t, secret, s)
		if public, want := wantSigned(secret, s); p != public || x != want {
			t.Errorf("seed %d: got %x, %x, want %x, %x", seed, p, x, public, want)
		}
		verifies(t, "what was signed", p, s, x, true)
	}
}

// TestSecretSizes: P11.1, ErrArg, secrets of every other small length.
func TestSecretSizes(t *testing.T) {
	for n := range 200 {
		if n == 32 {
			continue
		}
		for _, secret := range []string{zeros(n), ones(n), some(n, int64(n))} {
			refuses(t, secret, "")
			refuses(t, secret, "text")
			refuses(t, secret, some(32, 1))
		}
	}
	for _, n := range []int{1 << 8, 1<<8 + 32, 1 << 16, 1<<16 + 32, 1 << 20} {
		refuses(t, zeros(n), "text")
	}
	// what others take for a secret: it and its public key
	p, _ := signed(t, some(32, 1), "")
	refuses(t, some(32, 1)+p, "text")
}

// TestTurnedBits: P11.2, each bit of the public key, the text and the signature.
func TestTurnedBits(t *testing.T) {
	for _, size := range []int{0, 1, 13, 70} {
		s := some(size, int64(size))
		p, x := signed(t, some(32, int64(size+1)), s)
		verifies(t, "none turned", p, s, x, true)
		for bit := range 8 * 32 {
			verifies(t, "the public key turned", turned(p, bit), s, x, wantVerified(turned(p, bit), s, x))
		}
		for bit := range 8 * size {
			verifies(t, "the text turned", p, turned(s, bit), x, false)
		}
		for bit := range 8 * 64 {
			verifies(t, "the signature turned", p, s, turned(x, bit), false)
		}
		verifies(t, "none turned", p, s, x, true)
	}
}

// TestTurnedBytes: P11.2, bytes at the edges of each, turned by all others.
func TestTurnedBytes(t *testing.T) {
	s := some(9, 1)
	p, x := signed(t, some(32, 2), s)
	for by := 1; by < 256; by++ {
		for _, at := range []int{0, 15, 31} {
			other := with(p, at, byte(by))
			verifies(t, "the public key turned", other, s, x, wantVerified(other, s, x))
		}
		for _, at := range []int{0, 8} {
			verifies(t, "the text turned", p, with(s, at, byte(by)), x, false)
		}
		for _, at := range []int{0, 31, 32, 47, 62, 63} {
			verifies(t, "the signature turned", p, s, with(x, at, byte(by)), false)
		}
	}
}

// TestOthers: P11.2, what is signed by another secret, of another text, or put
// together of two signatures.
func TestOthers(t *testing.T) {
	const count = 6
	var ps, ss, xs [count]string
	for i := range count {
		ss[i] = some(i*3, int64(i))
		ps[i], xs[i] = signed(t, some(32, int64(i/2)), ss[i])
	}
	for i := range count {
		for j := range count {
			for k := range count {
				same := ps[i] == ps[k] && j == k
				verifies(t, "one of three", ps[i], ss[j], xs[k], same)
				verifies(t, "two halves", ps[i], ss[i], xs[j][:32]+xs[k][32:], i == j && j == k)
			}
		}
		verifies(t, "halves that changed places", ps[i], ss[i], xs[i][32:]+xs[i][:32], false)
		verifies(t, "the public key ahead of the text", ps[i], ps[i]+ss[i], xs[i], false)
		verifies(t, "a byte 0 behind the text", ps[i], ss[i]+"\x00", xs[i], false)
		verifies(t, "the first half as the public key", xs[i][:32], ss[i], xs[i], wantVerified(xs[i][:32], ss[i], xs[i]))
	}
}

// TestOrderAdded: P11.2, the last 32 bytes with L added to them, once and more
// often, and others that are not canonical.
func TestOrderAdded(t *testing.T) {
	for seed := range int64(20) {
		s := some(int(seed), seed)
		p, x := signed(t, some(32, seed), s)
		verifies(t, "nothing added", p, s, x, true)
		n, added := value(x[32:]), 0
		for n.Add(n, whole); n.BitLen() <= 256; n.Add(n, whole) {
			verifies(t, "L added", p, s, x[:32]+text(n), false)
			added++
		}
		if added < 14 {
			t.Errorf("L added only %d times", added)
		}
		for bit := 253; bit < 256; bit++ {
			verifies(t, "a bit above L", p, s, x[:32]+turned(x[32:], bit), false)
		}
		verifies(t, "L without them", p, s, x[:32]+text(new(big.Int).Sub(whole, value(x[32:]))), false)
		for d := int64(-3); d <= 3; d++ {
			verifies(t, "next to L", p, s, x[:32]+text(plus(whole, d)), false)
			verifies(t, "next to 2^252", p, s, x[:32]+text(plus(power(252), d)), false)
		}
		for _, last := range []string{zeros(32), ones(32), ones(31) + "\x0f", "\x01" + zeros(31)} {
			verifies(t, "other last bytes", p, s, x[:32]+last, false)
		}
	}
}

// TestNoPoints: P11.2, public keys and first halves that are no point's bytes.
func TestNoPoints(t *testing.T) {
	p, x := signed(t, some(32, 1), "text")
	var all []string
	for d := range int64(19) {
		all = append(all, text(plus(prime, d)))
	}
	for n := range int64(60) {
		all = append(all, text(big.NewInt(n)), text(plus(prime, -1-n)), some(32, n))
	}
	for _, o := range otherLow {
		all = append(all, o.bytes)
	}
	none := 0
	for _, s := range all {
		for _, s := range []string{s, turned(s, 255)} {
			if _, err := edw.Decode(s); err == api.OK {
				continue
			}
			none++
			verifies(t, "a public key that is no point", s, "text", x, false)
			verifies(t, "a first half that is no point", p, "text", s+x[32:], false)
			verifies(t, "both", s, "text", s+x[32:], false)
			verifies(t, "both, and nothing", s, "text", s+zeros(32), false)
		}
	}
	if none < 150 {
		t.Errorf("only %d are no points", none)
	}
}

// TestLowFirst: P11.2, bytes that are not canonical, as the first half, are refused
// even if the equation held for their point; the point's own bytes are taken.
func TestLowFirst(t *testing.T) {
	for _, o := range otherLow {
		for _, i := range []int{1, 3, 5, 7} {
			for seed := range int64(4) {
				by := odd{plus(value(some(31, seed)+"\x00"), 1), new(big.Int), i, o.place}
				s, x := by.fitting(t, o.bytes)
				verifies(t, "not canonical", by.public(), s, x, false)
				s, x = by.fitting(t, low[o.place])
				verifies(t, "the point's own bytes", by.public(), s, x, true)
			}
		}
		if o.place == 0 {
			by := odd{value(some(31, 9) + "\x00"), new(big.Int), 0, 0}
			x, _ := by.signed(o.bytes, "text")
			verifies(t, "not canonical", by.public(), "text", x, false)
			x, _ = by.signed(low[0], "text")
			verifies(t, "the zero point's own bytes", by.public(), "text", x, true)
		}
	}
}

// TestOddPoints: P11.2, the equation is asked as it stands: points that are no
// multiples of the base point are taken if it holds, and then alone, even if eight
// times both sides are always the same.
func TestOddPoints(t *testing.T) {
	var held, not int
	for i := range 8 {
		for j := range 8 {
			for n := range 12 {
				by := odd{value(some(31, int64(n)) + "\x00"), value(some(31, int64(n+20)) + "\x00"), i, j}
				if n%3 == 0 {
					by.r = new(big.Int)
				}
				s := stepped(n, 3, i+j)
				x, fits := by.signed(by.first(), s)
				verifies(t, "points of both kinds", by.public(), s, x, fits)
				if fits {
					held++
				} else {
					not++
				}
			}
		}
	}
	if held < 60 || not < 300 {
		t.Errorf("it holds %d times, and not %d times", held, not)
	}
}

// TestLowPublic: P11.2, public keys of Small points verify nothing, even if the
// equation holds.
func TestLowPublic(t *testing.T) {
	for i := range 8 {
		for j := range 8 {
			if i%2 == 0 && j%2 == 1 || i%4 == 0 && j%4 != 0 || i == 0 && j != 0 {
				continue // no number makes the one of the other
			}
			for n := range int64(3) {
				by := odd{new(big.Int), value(some(31, n) + "\x00"), i, j}
				if n == 0 {
					by.r = new(big.Int)
				}
				s, x := by.fitting(t, by.first())
				if by.public() != low[i] || !ed25519.Verify(ed25519.PublicKey(low[i]), []byte(s), []byte(x)) {
					t.Fatalf("the equation does not hold for the places %d and %d", i, j)
				}
				verifies(t, "a Small point", low[i], s, x, false)
			}
		}
	}
	// what is signed by others, too
	_, x := signed(t, some(32, 1), "text")
	for _, s := range low {
		verifies(t, "a Small point", s, "text", x, false)
		verifies(t, "a Small point", s, "text", s+zeros(32), false)
		verifies(t, "a Small point", s, "text", low[0]+zeros(32), false)
	}
}

// TestOtherLowPublic: P11.2, nor do bytes that would be Small points'.
func TestOtherLowPublic(t *testing.T) {
	for _, o := range otherLow {
		for n := range 40 {
			s := stepped(n, 3, n)
			r := value(some(31, int64(n)) + "\x00")
			for place := range low {
				verifies(t, "not canonical", o.bytes, s, spot(r, place)+text(r), false)
			}
		}
	}
}

// TestPublicSizes: P11.2, public keys of every other small length.
func TestPublicSizes(t *testing.T) {
	p, x := signed(t, some(32, 1), "text")
	long := p + some(200, 2)
	for n := range len(long) {
		if n == 32 {
			continue
		}
		for _, other := range []string{long[:n], zeros(n), ones(n)} {
			verifies(t, "a public key of another size", other, "text", x, false)
		}
		if n < 32 {
			verifies(t, "its end", p[32-n:], "text", x, false)
		} else {
			verifies(t, "zeros behind it", p+zeros(n-32), "text", x, false)
			verifies(t, "zeros ahead of it", zeros(n-32)+p, "text", x, false)
		}
	}
	for _, n := range []int{1 << 8, 1 << 16, 1 << 20} {
		verifies(t, "a public key of another size", p+zeros(n), "text", x, false)
	}
	// the same bytes in all, otherwise cut
	verifies(t, "a byte of the text", p+"t", "ext", x, false)
	verifies(t, "a byte less", p[:31], p[31:]+"text", x, false)
}

// TestSignatureSizes: P11.2, signatures of every other small length.
func TestSignatureSizes(t *testing.T) {
	p, x := signed(t, some(32, 1), "text")
	long := x + some(200, 2)
	for n := range len(long) {
		if n == 64 {
			continue
		}
		for _, other := range []string{long[:n], zeros(n), ones(n)} {
			verifies(t, "a signature of another size", p, "text", other, false)
		}
		if n < 64 {
			verifies(t, "its end", p, "text", x[64-n:], false)
		} else {
			verifies(t, "zeros behind it", p, "text", x+zeros(n-64), false)
			verifies(t, "zeros ahead of it", p, "text", zeros(n-64)+x, false)
		}
	}
	for _, n := range []int{1 << 8, 1 << 16, 1 << 20} {
		verifies(t, "a signature of another size", p, "text", x+zeros(n), false)
	}
	verifies(t, "twice", p, "text", x+x, false)
	verifies(t, "none", p, "text", "", false)
	verifies(t, "nothing at all", "", "", "", false)
}

// TestAnyBytes: R1, bytes that nobody signed.
func TestAnyBytes(t *testing.T) {
	for seed := range int64(300) {
		p, s, x := some(32, seed), some(int(seed%40), seed+1), some(64, seed+2)
		verifies(t, "any bytes", p, s, x, false)
		verifies(t, "any bytes, canonical ones", p, s, x[:63]+"\x00", false)
	}
}

// TestNothingIsKept: R6, an answer hangs on nothing that was asked before.
func TestNothingIsKept(t *testing.T) {
	secret, s := some(32, 1), some(300, 4)
	p, x := signed(t, secret, s)
	for range 3 {
		refuses(t, secret[1:], s)
		signed(t, some(32, 2), "another text")
		verifies(t, "turned", p, s, turned(x, 7), false)
		verifies(t, "a Small point", low[0], s, x, false)
		if again, y := signed(t, strings.Clone(secret), strings.Clone(s)); again != p || y != x {
			t.Error("the same text is signed otherwise")
		}
		verifies(t, "what was signed", p, s, x, true)
	}
}
