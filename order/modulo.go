package order

const (
	tailLow  = 0x5812631a5cf5d3ed // L without 2^252: its lower word
	tailHigh = 0x14def9dea2f79cd6 // and the upper one
	top      = 252 - 64*3         // the bit of the last word that 2^252 is
)

// modulus has the words of L.
func modulus() words { return words{tailLow, tailHigh, 0, 1 << top} }

// double are the 512 bits of a product, or of 64 bytes, the lowest word first.
type double [2 * count]uint64

// doubleOf has these bytes, the lowest first, of which there are at most 64.
func doubleOf(bytes ...byte) double {
	var x double
	for i, b := range bytes {
		x[i/8] |= uint64(b) << (i % 8 * 8)
	}
	return x
}

// low has the lower half.
func (x double) low() words { return words(x[:count]) }

// modulo is x modulo L. The three highest words are below L as they are; the
// others come in by halves, since next has no room for a whole one.
func (x double) modulo() Scalar {
	a := Scalar{words{x[5], x[6], x[7]}}
	for i := range 5 {
		word := x[4-i]
		a = a.next(word >> 32).next(word & (1<<32 - 1))
	}
	return a
}

// next is a with a further half word below it.
func (a Scalar) next(half uint64) Scalar {
	const kept = top - 32 // as many bits of the last word stay below 2^252
	x := a.words
	rest := words{
		x[0]<<32 | half,
		x[1]<<32 | x[0]>>32,
		x[2]<<32 | x[1]>>32,
		(x[3]&(1<<kept-1))<<32 | x[2]>>32,
	}
	// 2^252 is L without its tail: as often as it was left out here, rest has
	// the tail too much. That is at most 2^32 times, which is far below L in all.
	often := x[3] >> kept
	low, carry := productAnd(often, tailLow, 0, 0)
	middle, high := productAnd(often, tailHigh, carry, 0)
	return rest.without(words{low, middle, high})
}

// without is x without y modulo L, if that is at least -L and below L.
func (x words) without(y words) Scalar {
	rest, borrow := x.minus(y)
	// The carry of this sum takes the borrow back.
	rest, _ = rest.plus(modulus().once(borrow))
	return Scalar{rest}
}
