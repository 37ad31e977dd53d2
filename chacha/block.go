package chacha

import (
	"iter"
	"math/bits"
)

const (
	blockSize = 64
	opening   = "expand 32-byte k"
	rounds    = 10

	// where the parts of a block's first words begin
	keyAt    = 4
	numberAt = 12
	nonceAt  = 13
)

// turns are how far words are turned to the left, in each half of a mixing the
// fourth and the second one.
var turns = [2][2]int{{16, 12}, {8, 7}}

// words are those that a block is made of.
type words [blockSize / 4]uint32

// firstWords are the words of a block before they are mixed.
func firstWords(key, nonce string, number uint32) words {
	var w words
	w.put(0, opening)
	w.put(keyAt, key)
	w[numberAt] = number
	w.put(nonceAt, nonce)
	return w
}

// put lays the bytes of s, of each word the lowest one first, into words that are 0.
func (w *words) put(at int, s string) {
	for i := range len(s) {
		w[at+i/4] |= uint32(s[i]) << (i % 4 * 8)
	}
}

// mix changes the words at four places.
func (w *words) mix(first, second, third, fourth int) {
	a, b, c, d := w[first], w[second], w[third], w[fourth]
	for _, by := range turns {
		a += b
		d = bits.RotateLeft32(d^a, by[0])
		c += d
		b = bits.RotateLeft32(b^c, by[1])
	}
	w[first], w[second], w[third], w[fourth] = a, b, c, d
}

// round mixes the columns of four rows of words, and then their diagonals.
func (w *words) round() {
	w.mix(0, 4, 8, 12)
	w.mix(1, 5, 9, 13)
	w.mix(2, 6, 10, 14)
	w.mix(3, 7, 11, 15)
	w.mix(0, 5, 10, 15)
	w.mix(1, 6, 11, 12)
	w.mix(2, 7, 8, 13)
	w.mix(3, 4, 9, 14)
}

// blockOf is the block of its first words.
func blockOf(first words) [blockSize]byte {
	w := first
	for range rounds {
		w.round()
	}
	var b [blockSize]byte
	for i := range b {
		b[i] = byte((w[i/4] + first[i/4]) >> (i % 4 * 8))
	}
	return b
}

// stream tells the blocks from that of the first words on, each with its place
// in the stream. It goes on till it is left: whoever ranges over it sees to it
// that no number comes again.
func stream(first words) iter.Seq2[int, [blockSize]byte] {
	return func(yield func(int, [blockSize]byte) bool) {
		w := first
		for at := 0; yield(at, blockOf(w)); at += blockSize {
			w[numberAt]++
		}
	}
}
