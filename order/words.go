package order

import "math/bits"

const (
	size  = 32       // bytes of a number
	count = size / 8 // words of a number
)

// words are the 256 bits of a number, the lowest word first.
type words [count]uint64

// text has the bytes of x.
func (x words) text() string {
	var b [size]byte
	for i := range b {
		b[i] = byte(x[i/8] >> (i % 8 * 8))
	}
	return string(b[:])
}

// plus is the sum, and what it has above its words.
func (x words) plus(y words) (words, uint64) {
	var carry uint64
	for i := range x {
		x[i], carry = bits.Add64(x[i], y[i], carry)
	}
	return x, carry
}

// minus is x without y, and 1 if y is the greater one: then it is 2^256 too much.
func (x words) minus(y words) (words, uint64) {
	var borrow uint64
	for i := range x {
		x[i], borrow = bits.Sub64(x[i], y[i], borrow)
	}
	return x, borrow
}

// times is the product.
func (x words) times(y words) double {
	var out double
	for i := range x {
		var carry uint64
		for j := range y {
			out[i+j], carry = productAnd(x[i], y[j], out[i+j], carry)
		}
		out[i+count] = carry
	}
	return out
}

// once is x, or 0, as bit is 1 or 0.
func (x words) once(bit uint64) words {
	for i := range x {
		x[i] *= bit
	}
	return x
}

// productAnd is the product of x and y with a and b added, which fits in two
// words whatever they are; the lower one is told first.
func productAnd(x, y, a, b uint64) (uint64, uint64) {
	high, low := bits.Mul64(x, y)
	low, carry := bits.Add64(low, a, 0)
	high += carry
	low, carry = bits.Add64(low, b, 0)
	return low, high + carry
}
