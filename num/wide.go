package num

import "math/bits"

// wide is a product of two parts, or a sum of such ones.
type wide struct{ high, low uint64 }

func product(a, b uint64) wide {
	high, low := bits.Mul64(a, b)
	return wide{high, low}
}

func (w wide) plus(v wide) wide {
	low, carry := bits.Add64(w.low, v.low, 0)
	high, _ := bits.Add64(w.high, v.high, carry)
	return wide{high, low}
}

// below is what w has in the bits of a part.
func (w wide) below() uint64 { return w.low & full }

// above is what w has above them, if that is one word.
func (w wide) above() uint64 { return w.high<<(64-width) | w.low>>width }
