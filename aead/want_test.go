package aead_test

import (
	"encoding/binary"
	"math/big"
	"slices"

	"isthmus/api"
	"isthmus/chacha"
	"isthmus/poly"
)

// What the chapter says, once more and in another way: each byte by the block of
// its place, and a tag's text in one piece whose places are worked out ahead.
// chacha and poly are below both, so that a fault of theirs shows in TestVectors
// and the folds alone, which hold the package against bytes from elsewhere.

func wantBlock(key, nonce string, n uint32) string {
	b, err := chacha.Block(key, nonce, n)
	if err != api.OK {
		panic(err)
	}
	return b
}

func wantTurned(key, nonce, s string) string {
	out := []byte(s)
	block := ""
	for i := range out {
		if i%64 == 0 {
			block = wantBlock(key, nonce, uint32(1+i/64))
		}
		out[i] ^= block[i%64]
	}
	return string(out)
}

func wantTagged(ad, c string) string {
	second := (len(ad) + 15) / 16 * 16
	lengths := second + (len(c)+15)/16*16
	out := make([]byte, lengths+16)
	copy(out, ad)
	copy(out[second:], c)
	binary.LittleEndian.PutUint64(out[lengths:], uint64(len(ad)))
	binary.LittleEndian.PutUint64(out[lengths+8:], uint64(len(c)))
	return string(out)
}

func wantTag(key, nonce, ad, c string) string {
	tag, err := poly.Tag(wantBlock(key, nonce, 0)[:32], wantTagged(ad, c))
	if err != api.OK {
		panic(err)
	}
	return tag
}

func wantSealed(key, nonce, ad, s string) string {
	c := wantTurned(key, nonce, s)
	return c + wantTag(key, nonce, ad, c)
}

// wantFault is what Seal answers of sizes, and, with the tag's 16 bytes, Open.
func wantFault(key, nonce, ad, s, tag int) api.Errno {
	if key != 32 || nonce != 12 {
		return api.ErrArg
	}
	if ad > 65536 || s-tag > 65536 {
		return api.ErrLong
	}
	if s < tag {
		return api.ErrOpen
	}
	return api.OK
}

var (
	two128 = new(big.Int).Lsh(big.NewInt(1), 128)
	prime  = new(big.Int).Sub(new(big.Int).Lsh(big.NewInt(1), 130), big.NewInt(5))
	// the bits that a number by which tags multiply may have, the highest first
	mask, _ = new(big.Int).SetString("0ffffffc0ffffffc0ffffffc0fffffff", 16)
)

func wantNumber(s string) *big.Int {
	b := []byte(s)
	slices.Reverse(b)
	return new(big.Int).SetBytes(b)
}

// wantSecond is a piece that, behind the piece other, makes the tag that second
// makes behind first, if there is one: what the one has more, times what is
// multiplied by, the other one has less.
func wantSecond(key, nonce, first, second, other string) (string, bool) {
	by := wantNumber(wantBlock(key, nonce, 0)[:16])
	by.And(by, mask)
	n := new(big.Int).Sub(wantNumber(first), wantNumber(other))
	n.Mul(n, by).Add(n, wantNumber(second)).Mod(n, prime)
	if n.Cmp(two128) >= 0 {
		return "", false
	}
	b := n.FillBytes(make([]byte, 16))
	slices.Reverse(b)
	return string(b), true
}
