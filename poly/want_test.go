package poly_test

import (
	"encoding/hex"
	"math/big"
	"slices"
)

// What the chapter's section 'Words' says, once more and in another way: by whole
// numbers of any size. TestVectors and the folds hold the package against tags
// from elsewhere.

var (
	one    = big.NewInt(1)
	two128 = new(big.Int).Lsh(one, 128)
	prime  = new(big.Int).Sub(new(big.Int).Lsh(one, 130), big.NewInt(5))
	// the bits that the first half of a key may have, the highest first
	mask, _ = new(big.Int).SetString("0ffffffc0ffffffc0ffffffc0fffffff", 16)
)

func wantNumber(s string) *big.Int {
	b := []byte(s)
	slices.Reverse(b)
	return new(big.Int).SetBytes(b)
}

// wantBytes are the lowest 16 of n, the lowest first.
func wantBytes(n *big.Int) string {
	b := make([]byte, 16)
	new(big.Int).Mod(n, two128).FillBytes(b)
	slices.Reverse(b)
	return string(b)
}

// wantSum is what a text makes of the first half of a key, below the prime.
func wantSum(half, s string) *big.Int {
	r := new(big.Int).And(wantNumber(half), mask)
	a := new(big.Int)
	for len(s) > 0 {
		n := min(16, len(s))
		a.Add(a, wantNumber(s[:n]+"\x01"))
		a.Mul(a, r).Mod(a, prime)
		s = s[n:]
	}
	return a
}

func wantTag(key, s string) string {
	a := wantSum(key[:16], s)
	return wantBytes(a.Add(a, wantNumber(key[16:])))
}

func hexOf(s string) string { return hex.EncodeToString([]byte(s)) }
