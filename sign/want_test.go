package sign_test

import (
	"crypto/ed25519"
	"crypto/sha512"
	"math/big"
	"slices"
	"strings"
	"testing"

	"isthmus/api"
	"isthmus/edw"
	"isthmus/order"
)

// What P11.2 asks is told once more by crypto/ed25519, which takes just those
// signatures whose equation holds, but also public keys that the promise refuses.

var (
	prime = plus(power(255), -19)
	whole = new(big.Int).Add(power(252), decimal("27742317777372353535851937790883648493")) // L
)

func decimal(s string) *big.Int {
	n, ok := new(big.Int).SetString(s, 10)
	if !ok {
		panic(s)
	}
	return n
}

func power(n uint) *big.Int { return new(big.Int).Lsh(big.NewInt(1), n) }

func plus(n *big.Int, d int64) *big.Int { return new(big.Int).Add(n, big.NewInt(d)) }

// text has the 32 bytes of n, which must be below 2^256, the lowest first.
func text(n *big.Int) string {
	b := n.FillBytes(make([]byte, 32))
	slices.Reverse(b)
	return string(b)
}

// value is the number whose bytes s is.
func value(s string) *big.Int {
	b := []byte(s)
	slices.Reverse(b)
	return new(big.Int).SetBytes(b)
}

// low are the bytes of eight points, of which eight times are the zero point; the
// place tells how many times it is the one of place 1.
var low = []string{
	"\x01" + zeros(31),
	"\x26\xe8\x95\x8f\xc2\xb2\x27\xb0\x45\xc3\xf4\x89\xf2\xef\x98\xf0\xd5\xdf\xac\x05\xd3\xc6\x33\x39\xb1\x38\x02\x88\x6d\x53\xfc\x05",
	zeros(32),
	"\xc7\x17\x6a\x70\x3d\x4d\xd8\x4f\xba\x3c\x0b\x76\x0d\x10\x67\x0f\x2a\x20\x53\xfa\x2c\x39\xcc\xc6\x4e\xc7\xfd\x77\x92\xac\x03\x7a",
	"\xec" + ones(30) + "\x7f",
	"\xc7\x17\x6a\x70\x3d\x4d\xd8\x4f\xba\x3c\x0b\x76\x0d\x10\x67\x0f\x2a\x20\x53\xfa\x2c\x39\xcc\xc6\x4e\xc7\xfd\x77\x92\xac\x03\xfa",
	zeros(31) + "\x80",
	"\x26\xe8\x95\x8f\xc2\xb2\x27\xb0\x45\xc3\xf4\x89\xf2\xef\x98\xf0\xd5\xdf\xac\x05\xd3\xc6\x33\x39\xb1\x38\x02\x88\x6d\x53\xfc\x85",
}

// loose are bytes that would be those of the low point of that place, if what is
// not canonical were taken.
type loose struct {
	bytes string
	place int
}

// otherLow are all of them.
var otherLow = []loose{
	{"\x01" + zeros(30) + "\x80", 0},
	{"\xee" + ones(30) + "\x7f", 0},
	{"\xee" + ones(31), 0},
	{"\xec" + ones(31), 4},
	{"\xed" + ones(30) + "\x7f", 2},
	{"\xed" + ones(31), 6},
}

// TestLow: the table above is what it is said to be.
func TestLow(t *testing.T) {
	one, err := edw.Decode(low[1])
	if err != api.OK {
		t.Fatal(err)
	}
	sum := edw.Zero()
	for i, s := range low {
		if sum.Bytes() != s || !sum.Small() {
			t.Errorf("%d: %x", i, sum.Bytes())
		}
		sum = sum.Add(one)
	}
	for _, o := range otherLow {
		y, want := value(o.bytes), value(low[o.place])
		y.SetBit(y, 255, 0).Mod(y, prime)
		if want.SetBit(want, 255, 0).Cmp(y) != 0 {
			t.Errorf("%x", o.bytes)
		}
	}
}

// mayBePublic tells whether s may be a public key's bytes, if they are a point's.
func mayBePublic(s string) bool {
	y := value(s)
	y.SetBit(y, 255, 0)
	isLoose := slices.ContainsFunc(otherLow, func(o loose) bool { return o.bytes == s })
	return y.Cmp(prime) < 0 && !slices.Contains(low, s) && !isLoose
}

// wantVerified is what P11.2 says.
func wantVerified(public, s, signature string) bool {
	if len(public) != 32 || len(signature) != 64 || !mayBePublic(public) {
		return false
	}
	return ed25519.Verify(ed25519.PublicKey(public), []byte(s), []byte(signature))
}

// wantSigned are the public key and the signature.
func wantSigned(secret, s string) (string, string) {
	key := ed25519.NewKeyFromSeed([]byte(secret))
	return string(key[32:]), string(ed25519.Sign(key, []byte(s)))
}

// wantNumber is the number of the texts.
func wantNumber(texts ...string) *big.Int {
	d := sha512.Sum512([]byte(strings.Join(texts, "")))
	return new(big.Int).Mod(value(string(d[:])), whole)
}

// odd makes signatures that Sign does not: its public point is a times the base
// point and the low point of place i, their first point r times and that of j.
type odd struct {
	a, r *big.Int
	i, j int
}

// spot are the bytes of n times the base point and the low point of that place.
func spot(n *big.Int, place int) string {
	by, err := order.Of(text(new(big.Int).Mod(n, whole)))
	p, worse := edw.Decode(low[place])
	if err != api.OK || worse != api.OK {
		panic("no point")
	}
	return edw.Base().Mul(by).Add(p).Bytes()
}

func (o odd) public() string { return spot(o.a, o.i) }

func (o odd) first() string { return spot(o.r, o.j) }

// signed is the signature that begins with those bytes, and whether the low points
// leave nothing, so that the equation holds, if they are taken for the first
// point's.
func (o odd) signed(first, s string) (string, bool) {
	k := wantNumber(first, o.public(), s)
	n := new(big.Int).Mul(k, o.a)
	n.Add(n, o.r).Mod(n, whole)
	left := new(big.Int).Mod(k, big.NewInt(8)).Int64()*int64(o.i) + int64(o.j)
	return first + text(n), left%8 == 0
}

// fitting is a text, and its signature, of which the low points leave nothing.
func (o odd) fitting(t *testing.T, first string) (string, string) {
	t.Helper()
	for n := range 1000 {
		s := stepped(n%20, 7, n)
		if signature, fits := o.signed(first, s); fits {
			return s, signature
		}
	}
	t.Fatalf("no text for the places %d and %d", o.i, o.j)
	return "", ""
}
