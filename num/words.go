package num

// size is how many bytes a number has.
const size = 32

// words are the 256 bits of a number's bytes, the lowest word first.
type words [size / 8]uint64

// wordsOf has the bytes of s, which must be 32.
func wordsOf(s string) words {
	var w words
	for i := range size {
		w[i/8] |= uint64(s[i]) << (i % 8 * 8)
	}
	return w
}

// text has the bytes of w.
func (w words) text() string {
	var b [size]byte
	for i := range b {
		b[i] = byte(w[i/8] >> (i % 8 * 8))
	}
	return string(b[:])
}

// number is what w is modulo p. The last part takes all bits that are left, the
// one of 2^255 too, which counts.
func (w words) number() Elem {
	return carried(
		w[0]&full,
		(w[0]>>51|w[1]<<13)&full,
		(w[1]>>38|w[2]<<26)&full,
		(w[2]>>25|w[3]<<39)&full,
		w[3]>>12,
	)
}

// words has the bits of a as a number below p.
func (a Elem) words() words {
	x := a.least()
	return words{
		x[0] | x[1]<<51,
		x[1]>>13 | x[2]<<38,
		x[2]>>26 | x[3]<<25,
		x[3]>>39 | x[4]<<12,
	}
}
