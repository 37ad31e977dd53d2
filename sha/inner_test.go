package sha

import (
	"math/big"
	"math/rand"
	"testing"
)

// primes are the first ones, so many.
func primes(count int) []int64 {
	var out []int64
	for n := int64(2); len(out) < count; n++ {
		if big.NewInt(n).ProbablyPrime(0) {
			out = append(out, n)
		}
	}
	return out
}

// isRoot tells whether word is the first 64 bits behind the point of that root
// of p: with the whole part ahead of it, it is at most the root, and one more is above.
func isRoot(word uint64, p, power int64) bool {
	raised := func(n *big.Int) *big.Int { return new(big.Int).Exp(n, big.NewInt(power), nil) }
	whole := int64(1)
	for raised(big.NewInt(whole+1)).Cmp(big.NewInt(p)) <= 0 {
		whole++
	}
	low := new(big.Int).Lsh(big.NewInt(whole), 64)
	low.Add(low, new(big.Int).SetUint64(word))
	bound := new(big.Int).Lsh(big.NewInt(p), uint(64*power))
	return raised(low).Cmp(bound) <= 0 && raised(low.Add(low, big.NewInt(1))).Cmp(bound) > 0
}

func TestConstants(t *testing.T) {
	if len(constants) != 80 {
		t.Fatalf("%d constants", len(constants))
	}
	for i, p := range primes(80) {
		if !isRoot(constants[i], p, 3) {
			t.Errorf("constant %d is not of the cube root of %d: %x", i, p, constants[i])
		}
	}
}

func TestFirstWords(t *testing.T) {
	words := firstWords()
	for i, p := range primes(8) {
		if !isRoot(words[i], p, 2) {
			t.Errorf("word %d is not of the square root of %d: %x", i, p, words[i])
		}
	}
}

// turnedBits turns x to the right, bit by bit.
func turnedBits(x uint64, by int) uint64 {
	var out uint64
	for place := range 64 {
		if x>>place&1 == 1 {
			out |= 1 << ((place + 64 - by) % 64)
		}
	}
	return out
}

func TestTurned(t *testing.T) {
	r := rand.New(rand.NewSource(1))
	for _, x := range []uint64{0, 1, 1 << 63, 1<<64 - 1, r.Uint64(), r.Uint64(), r.Uint64()} {
		turned := turner(x)
		for by := range 64 {
			if turned(by) != turnedBits(x, by) {
				t.Errorf("%x by %d: got %x, want %x", x, by, turned(by), turnedBits(x, by))
			}
		}
		if got, want := turnedThrice(x, 14, 18, 41), turnedBits(x, 14)^turnedBits(x, 18)^turnedBits(x, 41); got != want {
			t.Errorf("%x thrice: got %x, want %x", x, got, want)
		}
		if got, want := turnedAndMoved(x, 19, 61, 6), turnedBits(x, 19)^turnedBits(x, 61)^x/64; got != want {
			t.Errorf("%x moved: got %x, want %x", x, got, want)
		}
	}
}

// TestChangesPlaces: what a round does with words that are told apart, as the chapter writes it.
func TestChangesPlaces(t *testing.T) {
	r := rand.New(rand.NewSource(2))
	for range 500 {
		var w [8]uint64
		for i := range w {
			w[i] = r.Uint64()
		}
		comes := r.Uint64()
		a, b, c, d, e, f, g, h := w[0], w[1], w[2], w[3], w[4], w[5], w[6], w[7]
		u := h + (turnedBits(e, 14) ^ turnedBits(e, 18) ^ turnedBits(e, 41)) + (e&f ^ ^e&g) + comes
		v := (turnedBits(a, 28) ^ turnedBits(a, 34) ^ turnedBits(a, 39)) + (a&b ^ a&c ^ b&c)
		if got, want := stepped(w, comes), [8]uint64{u + v, a, b, c, d + u, e, f, g}; got != want {
			t.Fatalf("got %x, want %x", got, want)
		}
	}
}

// TestHighestFirst: the count of bits of a text that no test has the room for.
func TestHighestFirst(t *testing.T) {
	if got := highestFirst(); got != "" {
		t.Errorf("none: %x", got)
	}
	if got := highestFirst(0x0102030405060708, 0xf1f2f3f4f5f6f7f8); got != "\x01\x02\x03\x04\x05\x06\x07\x08\xf1\xf2\xf3\xf4\xf5\xf6\xf7\xf8" {
		t.Errorf("two: %x", got)
	}
}

// TestEnd: what stands behind a text ends with its bits, as 16 bytes, and ends a block.
func TestEnd(t *testing.T) {
	for _, n := range []uint64{0, 1, 111, 112, 127, 128, 1<<29 - 1, 1 << 31, 1<<61 - 1, 1 << 61, 1<<63 + 111} {
		h := New()
		h.count = n
		h.end()
		want := new(big.Int).Lsh(new(big.Int).SetUint64(n), 3)
		if got := new(big.Int).SetBytes(h.rest[blockSize-16:]); h.count%blockSize != 0 || got.Cmp(want) != 0 {
			t.Errorf("%d bytes: %v bits, %d bytes in all; want %v bits", n, got, h.count, want)
		}
	}
}

// TestSumLeavesAll: Sum changes nothing that is kept.
func TestSumLeavesAll(t *testing.T) {
	h := New()
	for n := range 300 {
		kept := *h
		h.Sum()
		if *h != kept {
			t.Fatalf("%d bytes: Sum changed the hash", n)
		}
		h.Add("x")
	}
}
