package mont_test

import (
	"crypto/ecdh"
	"encoding/hex"
	"math/big"
	"math/rand"
	"strings"
	"testing"

	"isthmus/api"
	"isthmus/mont"
	"isthmus/num"
)

var (
	none = strings.Repeat("\x00", 32)
	all  = strings.Repeat("\xff", 32)
	nine = "\x09" + none[1:]
)

func unhex(t *testing.T, s string) string {
	t.Helper()
	b, err := hex.DecodeString(s)
	if err != nil {
		t.Fatal(err)
	}
	return string(b)
}

func shared(t *testing.T, secret, public string) string {
	t.Helper()
	s, err := mont.Shared(secret, public)
	if err != api.OK {
		t.Fatalf("Shared of %x and %x: %v", secret, public, err)
	}
	return s
}

func public(t *testing.T, secret string) string {
	t.Helper()
	s, err := mont.Public(secret)
	if err != api.OK {
		t.Fatalf("Public of %x: %v", secret, err)
	}
	return s
}

// turned is s with the bit of that place turned.
func turned(s string, place int) string {
	b := []byte(s)
	b[place/8] ^= 1 << (place % 8)
	return string(b)
}

// some are rows of 32 bytes, the same ones in every run.
func some(count int, seed int64) []string {
	r := rand.New(rand.NewSource(seed))
	out := make([]string, count)
	for i := range out {
		b := make([]byte, 32)
		r.Read(b)
		out[i] = string(b)
	}
	return out
}

// secrets are those where something may go wrong, and some others.
func secrets() []string {
	out := []string{none, all, text(power(254)), text(plus(power(254), -1)), text(power(255)), text(big.NewInt(7)), text(big.NewInt(8))}
	for _, n := range []uint{3, 63, 64, 127, 128, 191, 192, 253} {
		out = append(out, text(power(n)), turned(all, int(n)))
	}
	out = append(out, strings.Repeat("\x55", 32), strings.Repeat("\xaa", 32))
	return append(out, some(6, 1)...)
}

// eighths are the first coordinates of all points, of the curve and its twist, of
// which eight times are the one that has none: so with each secret, which is a
// multiple of 8, they make 32 bytes 0.
func eighths(t *testing.T) []*big.Int {
	t.Helper()
	// Twice a point with the first coordinate x has (x^2 - 1)^2 / 4 cubic(x). So
	// 0 comes of 1 and -1, and 1 of the roots of (x^2 - 1)^2 - 4 cubic(x), which is
	// (x^2 - 2x + 1)^2 - 4 * 486664 x^2.
	out := []*big.Int{new(big.Int), big.NewInt(1), plus(prime, -1)}
	root := new(big.Int).ModSqrt(big.NewInt(486664), prime)
	for _, r := range []*big.Int{root, new(big.Int).Neg(root)} {
		half := plus(r, 1) // x^2 - 2 half x + 1 = 0
		square := new(big.Int).ModSqrt(modulo(plus(times(half, half), -1)), prime)
		if square == nil {
			continue
		}
		out = append(out, modulo(new(big.Int).Add(half, square)), modulo(new(big.Int).Sub(half, square)))
	}
	if len(out) != 5 {
		t.Fatalf("%d of them", len(out))
	}
	return out
}

// names are all 32 bytes that are a public key of the number n below p.
func names(n *big.Int) []string {
	out := []string{text(n), turned(text(n), 255)}
	if more := new(big.Int).Add(n, prime); more.BitLen() <= 255 {
		out = append(out, text(more), turned(text(more), 255))
	}
	return out
}

// TestKnown has the test vectors of RFC 7748, sections 5.2 and 6.1.
func TestKnown(t *testing.T) {
	for _, row := range [][3]string{
		{"a546e36bf0527c9d3b16154b82465edd62144c0ac1fc5a18506a2244ba449ac4", "e6db6867583030db3594c1a424b15f7c726624ec26b3353b10a903a6d0ab1c4c", "c3da55379de9c6908e94ea4df28d084f32eccf03491c71f754b4075577a28552"},
		{"4b66e9d4d1b4673c5ad22691957d6af5c11b6421e0ea01d42ca4169e7918ba0d", "e5210f12786811d3f4b7959d0538ae2c31dbe7106fc03c3efc4cd549c715a493", "95cbde9476e8907d7aade45cb4b873f88b595a68799fa152e6f8f7647aac7957"},
	} {
		if got := shared(t, unhex(t, row[0]), unhex(t, row[1])); got != unhex(t, row[2]) {
			t.Errorf("Shared: got %x, want %s", got, row[2])
		}
	}
	a, ofA := unhex(t, "77076d0a7318a57d3c16c17251b26645df4c2f87ebc0992ab177fba51db92c2a"), unhex(t, "8520f0098930a754748b7ddcb43ef75a0dbf3a0d26381af4eba4a98eaa9b4e6a")
	b, ofB := unhex(t, "5dab087e624a8a4b79e17f8b83800ee66f3bb1292618b6fd1c2f8b27ff88e0eb"), unhex(t, "de9edb7d7b7dc1b4d35b61c2ece435373f8343c85b78674dadfc7e146f882b4f")
	both := unhex(t, "4a5d9d5ba4ce2de1728e3bf480350f25e07e21c947d19e3376f09b3c1e161742")
	if public(t, a) != ofA || public(t, b) != ofB {
		t.Errorf("Public: got %x and %x", public(t, a), public(t, b))
	}
	if shared(t, a, ofB) != both || shared(t, b, ofA) != both {
		t.Errorf("Shared: got %x and %x", shared(t, a, ofB), shared(t, b, ofA))
	}
}

// TestKnownRow has the row of calls of RFC 7748, section 5.2.
func TestKnownRow(t *testing.T) {
	want := map[int]string{
		1:    "422c8e7a6227d7bca1350b3e2bb7279f7897b87bb6854b783c60e80311ae3079",
		1000: "684cf59ba83309552800ef566f2f4d3c1c3887c49360e3875f2eb94d99532c51",
	}
	secret, key := nine, nine
	for i := 1; i <= 1000; i++ {
		secret, key = shared(t, secret, key), secret
		if s, is := want[i]; is && secret != unhex(t, s) {
			t.Fatalf("call %d: got %x, want %s", i, secret, s)
		}
	}
}

// TestExamples has those of the chapter.
func TestExamples(t *testing.T) {
	secret := unhex(t, "77076d0a7318a57d3c16c17251b26645df4d2a0d28c9ca1d57fd4aae6f3a1b77")
	if got := public(t, secret); got != made(secret, nine) {
		t.Errorf("Public: got %x", got)
	}
	for _, secret := range append(secrets(), secret) {
		for _, key := range []string{none, "\x01" + none[1:]} {
			if s, err := mont.Shared(secret, key); s != "" || err != api.ErrWeak {
				t.Errorf("Shared of %x and %x: %x, %v", secret, key, s, err)
			}
		}
	}
	if s, err := mont.Shared(secret[:31], nine); s != "" || err != api.ErrArg {
		t.Errorf("a secret of 31 bytes: %x, %v", s, err)
	}
	if api.ErrWeak.Error() != "error 30" || api.ErrArg.Error() != "error 2" {
		t.Error("the texts of errors")
	}
}

func TestLengths(t *testing.T) {
	for n := range 100 {
		for _, fill := range []string{"\x00", "\x01", "\x09", "\xff"} {
			wrong := strings.Repeat(fill, n)
			if n == 32 {
				continue
			}
			// 32 bytes 0 are a weak key: ErrArg is the error that is named first.
			for _, good := range []string{none, nine, all} {
				for _, pair := range [][2]string{{wrong, good}, {good, wrong}, {wrong, wrong}} {
					if s, err := mont.Shared(pair[0], pair[1]); s != "" || err != api.ErrArg {
						t.Errorf("Shared of %d and %d bytes: %x, %v", len(pair[0]), len(pair[1]), s, err)
					}
				}
			}
			if s, err := mont.Public(wrong); s != "" || err != api.ErrArg {
				t.Errorf("Public of %d bytes: %x, %v", n, s, err)
			}
		}
	}
	many := strings.Repeat("\x09", 1<<20)
	if _, err := mont.Shared(nine, many); err != api.ErrArg {
		t.Error("a public key of many bytes")
	}
	if _, err := mont.Shared(many, nine); err != api.ErrArg {
		t.Error("a secret of many bytes")
	}
}

func TestWeak(t *testing.T) {
	// As others have listed them.
	known := map[string]bool{}
	for _, s := range []string{
		"0000000000000000000000000000000000000000000000000000000000000000",
		"0100000000000000000000000000000000000000000000000000000000000000",
		"e0eb7a7c3b41b8ae1656e3faf19fc46ada098deb9c32b1fd866205165f49b800",
		"5f9c95bca3508c24b1d0b1559c83ef5b04445cc4581c8e86d8224eddd09f1157",
		"ecffffffffffffffffffffffffffffffffffffffffffffffffffffffffffff7f",
	} {
		known[unhex(t, s)] = true
	}
	for _, n := range eighths(t) {
		if !known[text(n)] {
			t.Fatalf("%x is not known", text(n))
		}
		for _, key := range names(n) {
			for _, secret := range secrets() {
				if s, err := mont.Shared(secret, key); s != "" || err != api.ErrWeak {
					t.Errorf("Shared of %x and %x: %x, %v", secret, key, s, err)
				}
			}
		}
		if made(all, text(n)) != none {
			t.Errorf("%x is not weak", text(n))
		}
	}
}

// TestNextToWeak has keys that look like weak ones.
func TestNextToWeak(t *testing.T) {
	weak := eighths(t)
	for _, n := range weak {
		for _, d := range []int64{-2, -1, 1, 2} {
			near := modulo(plus(n, d))
			is := false
			for _, m := range weak {
				is = is || near.Cmp(m) == 0
			}
			if is {
				continue
			}
			for _, key := range names(near) {
				if got := shared(t, all, key); got != made(all, key) {
					t.Errorf("Shared of %x: got %x", key, got)
				}
			}
		}
	}
}

// TestPointsOfBoth holds Shared against the points that are added, as many of the
// curve as of its twist.
func TestPointsOfBoth(t *testing.T) {
	const want = 12
	curves := [2][]string{}
	for n := int64(2); len(curves[0]) < want/2 || len(curves[1]) < want/2; n++ {
		curves[kind(big.NewInt(n))] = append(curves[kind(big.NewInt(n))], text(big.NewInt(n)))
	}
	for _, key := range some(want, 2) {
		n := number(key)
		curves[kind(n)] = append(curves[kind(n)], key)
	}
	for _, of := range curves {
		if len(of) < want/2 {
			t.Fatal("too few points")
		}
		for _, key := range of {
			for _, secret := range secrets()[:9] {
				if got, want := shared(t, secret, key), made(secret, key); got != want {
					t.Errorf("Shared of %x and %x: got %x, want %x", secret, key, got, want)
				}
			}
		}
	}
}

// kind is 0 of the curve, 1 of its twist.
func kind(x *big.Int) int {
	if onTwist(x) {
		return 1
	}
	return 0
}

func TestSecrets(t *testing.T) {
	keys := append(some(3, 3), nine, text(plus(prime, -2)), all)
	for _, secret := range secrets() {
		for _, key := range keys {
			if got, want := shared(t, secret, key), made(secret, key); got != want {
				t.Errorf("Shared of %x and %x: got %x, want %x", secret, key, got, want)
			}
		}
		if got, want := public(t, secret), made(secret, nine); got != want {
			t.Errorf("Public of %x: got %x, want %x", secret, got, want)
		}
	}
}

// TestBitsOfSecrets tells that just those bits count that Clamp leaves.
func TestBitsOfSecrets(t *testing.T) {
	key := some(1, 4)[0]
	for _, secret := range []string{none, all, some(1, 5)[0]} {
		seen := map[string]int{shared(t, secret, key): -1}
		for bit := range 256 {
			got := shared(t, turned(secret, bit), key)
			before, is := seen[got]
			if bit < 3 || bit >= 254 {
				if !is || before != -1 {
					t.Errorf("bit %d of %x counts", bit, secret)
				}
				continue
			}
			if is {
				t.Errorf("bit %d of %x makes the same as %d", bit, secret, before)
			}
			seen[got] = bit
		}
	}
}

func TestPublicIsSharedOfNine(t *testing.T) {
	base := num.Small(9).Bytes()
	for _, secret := range append(secrets(), some(200, 6)...) {
		if public(t, secret) != shared(t, secret, base) {
			t.Errorf("Public of %x: %x", secret, public(t, secret))
		}
	}
}

// TestElsewhere holds both calls against those of another program.
func TestElsewhere(t *testing.T) {
	keys := some(600, 7)
	for i, secret := range some(600, 8) {
		mine, err := ecdh.X25519().NewPrivateKey([]byte(secret))
		if err != nil {
			t.Fatal(err)
		}
		other, err := ecdh.X25519().NewPublicKey([]byte(keys[i]))
		if err != nil {
			t.Fatal(err)
		}
		want, err := mine.ECDH(other)
		if err != nil {
			t.Fatal(err)
		}
		if got := shared(t, secret, keys[i]); got != string(want) {
			t.Errorf("Shared of %x and %x: got %x, want %x", secret, keys[i], got, want)
		}
		if got, want := public(t, secret), mine.PublicKey().Bytes(); got != string(want) {
			t.Errorf("Public of %x: got %x, want %x", secret, got, want)
		}
	}
}

func TestAnswersAreCanonical(t *testing.T) {
	keys := some(200, 9)
	for i, secret := range some(200, 10) {
		for _, s := range []string{shared(t, secret, keys[i]), public(t, secret)} {
			if !num.Canonical(s) || s == none {
				t.Errorf("%x is not canonical", s)
			}
		}
	}
}

func TestBothMakeTheSame(t *testing.T) {
	every := append(secrets(), some(20, 11)...)
	for i, a := range every {
		for _, b := range every[i:] {
			ab, ba := shared(t, a, public(t, b)), shared(t, b, public(t, a))
			if ab != ba {
				t.Errorf("%x and %x: %x and %x", a, b, ab, ba)
			}
		}
	}
	x := some(3, 16)
	ab, bc, ca := shared(t, x[0], public(t, x[1])), shared(t, x[1], public(t, x[2])), shared(t, x[2], public(t, x[0]))
	if ab == bc || bc == ca || ca == ab {
		t.Error("two others make the same")
	}
}

// TestNamesOfOneKey has keys that are the same: the highest bit turned, p added.
func TestNamesOfOneKey(t *testing.T) {
	own := secrets()
	for i, key := range append(some(100, 12), nine, all) {
		secret := own[i%len(own)]
		if shared(t, secret, key) != shared(t, secret, turned(key, 255)) {
			t.Errorf("the highest bit of %x counts", key)
		}
	}
	// Of the numbers below p only those below 19 have room for p within 255 bits.
	for n := int64(2); n < 19; n++ {
		same := names(big.NewInt(n))
		if len(same) != 4 {
			t.Fatalf("%d names of %d", len(same), n)
		}
		for _, secret := range own {
			want := shared(t, secret, same[0])
			for _, key := range same[1:] {
				if got := shared(t, secret, key); got != want {
					t.Errorf("Shared of %x and %x: got %x, want %x", secret, key, got, want)
				}
			}
		}
	}
	for _, secret := range own {
		for _, key := range names(big.NewInt(9)) {
			if shared(t, secret, key) != public(t, secret) {
				t.Errorf("%x is not the base point's", key)
			}
		}
	}
}

// TestBitsOfPublicKeys tells that all other bits count.
func TestBitsOfPublicKeys(t *testing.T) {
	for _, key := range some(2, 13) {
		seen := map[string]int{shared(t, all, key): -1}
		for bit := range 255 {
			got := shared(t, all, turned(key, bit))
			if before, is := seen[got]; is {
				t.Errorf("bits %d and %d of %x make the same", before, bit, key)
			}
			seen[got] = bit
		}
	}
}

func TestCallsHangOnNothingElse(t *testing.T) {
	secret, key := some(1, 14)[0], some(1, 15)[0]
	first, own := shared(t, secret, key), public(t, secret)
	mont.Shared(key, none)
	mont.Shared(key, "")
	mont.Public(key)
	if shared(t, secret, key) != first || public(t, secret) != own {
		t.Error("a call made again answers something else")
	}
}
