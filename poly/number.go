package poly

const (
	count = 5            // parts of a number
	width = 26           // bits by which a part stands above the one before it
	full  = 1<<width - 1 // the most that these bits hold
	fold  = 5            // what 2^130 is modulo p
)

// number is one modulo p, which is 2^130 - 5; its parts are the lowest first.
// One number may have several rows of parts: each call says which it counts on.
type number [count]uint64

// numberOf has its parts within their bits: the byte behind is 0 or 1.
func numberOf(p padded) number {
	var a number
	for i, b := range p {
		a[8*i/width] |= uint64(b) << (8 * i % width)
	}
	a, _ = a.settled()
	return a
}

// plus is the sum, as it is: its parts may go above their bits.
func (a number) plus(b number) number {
	for i := range a {
		a[i] += b[i]
	}
	return a
}

// times is the product, carried. The parts of a may have 28 bits, those of b
// their 26: so what comes together at one place, 21 times a product at most, has
// less than 59.
func (a number) times(b number) number {
	var places [2*count - 1]uint64
	for i, x := range a {
		for j, y := range b {
			places[i+j] += x * y
		}
	}
	var out number
	copy(out[:], places[:count])
	// What stands at 2^130 or above comes round to the lower parts, by 5.
	for i, x := range places[count:] {
		out[i] += x * fold
	}
	return out.carried()
}

// settled has each part within its bits: what one has above them goes to the
// next one, and that of the last one is told beside.
func (a number) settled() (number, uint64) {
	var above uint64
	for i, part := range a {
		part += above
		a[i], above = part&full, part>>width
	}
	return a, above
}

// carried is a below 2^130, its parts within their bits, but for the first one,
// which may be up to 5 above. What stands at 2^130 or above comes round by 5. Of
// parts of 59 bits that is below 2^36: so it is at most once 5 the second time,
// and then the rest is below 2^36.
func (a number) carried() number {
	for range 2 {
		b, above := a.settled()
		b[0] += above * fold
		a = b
	}
	return a
}

// least is a, which is below 2^130, as a number below p, with its parts within
// their bits.
func (a number) least() number {
	// Just if a is p or above, 5 more reach 2^130; a without p is then these 5
	// more, without 2^130.
	more := a
	more[0] += fold
	_, over := more.settled()
	a[0] += over * fold
	a, _ = a.settled()
	return a
}

// text has the lowest 16 bytes of a.
func (a number) text() string {
	a, _ = a.settled()
	var parts [count + 1]uint64
	copy(parts[:], a[:])
	var b [pieceSize]byte
	for i := range b {
		at := 8 * i / width
		b[i] = byte((parts[at] | parts[at+1]<<width) >> (8 * i % width))
	}
	return string(b[:])
}
