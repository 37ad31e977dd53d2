package kdf

import (
	"strings"

	"isthmus/blake"
)

const (
	blockSize = 64 // of the digest's pieces
	outMask   = 92
	inMask    = 54
)

// block is a key, with bytes 0 behind it.
type block [blockSize]byte

func blockOf(key string) block {
	if len(key) > blockSize {
		key = blake.Of(key)
	}
	var b block
	copy(b[:], key)
	return b
}

// masked changes its own copy alone, so that the key is there for the other mask.
func (b block) masked(mask byte) string {
	for i := range b {
		b[i] ^= mask
	}
	return string(b[:])
}

func (b block) tag(s string) string {
	return blake.Of(b.masked(outMask) + blake.Of(b.masked(inMask)+s))
}

// tags are as many, each made of the one ahead of it, as n bytes need.
func (b block) tags(info string, n int) string {
	var all strings.Builder
	last, number := "", byte(0)
more:
	if all.Len() < n {
		number++
		last = b.tag(last + info + string([]byte{number}))
		all.WriteString(last)
		goto more
	}
	return all.String()
}
