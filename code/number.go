package code

import "math/bits"

// kind are the kinds of numbers that have bytes.
type kind interface {
	uint8 | uint16 | uint32 | uint64
}

// sizeOf is how many bytes a number of that kind has.
func sizeOf[N kind]() int { return bits.Len64(uint64(^N(0))) / 8 }

// bytesOf are the bytes of x.
func bytesOf[N kind](x N) string {
	out := make([]byte, sizeOf[N]())
	rest := uint64(x)
	for i := len(out) - 1; i >= 0; i-- {
		out[i] = byte(rest)
		rest >>= 8
	}
	return string(out)
}

// next is the number of the next bytes of r, as many as its kind has. Of a fault
// there are none, whose number is 0.
func next[N kind](r *Reader) N {
	var x uint64
	for _, b := range []byte(r.Take(sizeOf[N]())) {
		x = x<<8 | uint64(b)
	}
	return N(x)
}
