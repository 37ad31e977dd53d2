// Package num has the numbers modulo 2^255 - 19.
package num

import "isthmus/api"

const (
	count = 5            // parts of a number
	width = 51           // bits by which a part stands above the one before it
	full  = 1<<width - 1 // the most that these bits hold
	fold  = 19           // what 2^255 is modulo p
)

// Elem is a number modulo 2^255 - 19. The zero one is 0.
//
// Its parts stand in an array, the lowest first. One number may have several
// rows of parts; those that an Elem has are as carried leaves them, so that
// each call may count on their bound.
type Elem struct{ parts [count]uint64 }

// Of is the number that the 32 bytes of s are, modulo p.
func Of(s string) (Elem, api.Errno) {
	if len(s) != size {
		return Elem{}, api.ErrArg
	}
	return wordsOf(s).number(), api.OK
}

// Small is n.
func Small(n uint32) Elem { return carried(uint64(n), 0, 0, 0, 0) }

// Canonical tells whether s is the bytes of a number below p.
func Canonical(s string) bool {
	a, err := Of(s)
	return err == api.OK && a.Bytes() == s
}

// Bytes are the canonical ones of a, the lowest first.
func (a Elem) Bytes() string { return a.words().text() }

// Add is the sum.
func (a Elem) Add(b Elem) Elem {
	return carried(
		a.parts[0]+b.parts[0],
		a.parts[1]+b.parts[1],
		a.parts[2]+b.parts[2],
		a.parts[3]+b.parts[3],
		a.parts[4]+b.parts[4],
	)
}

// Sub is the difference.
func (a Elem) Sub(b Elem) Elem {
	// 2p is added, whose parts are each above any that carried leaves: so none
	// falls below 0.
	const first, other = 2 * (full + 1 - fold), 2 * full
	return carried(
		a.parts[0]+first-b.parts[0],
		a.parts[1]+other-b.parts[1],
		a.parts[2]+other-b.parts[2],
		a.parts[3]+other-b.parts[3],
		a.parts[4]+other-b.parts[4],
	)
}

// Mul is the product.
func (a Elem) Mul(b Elem) Elem {
	x0, x1, x2, x3, x4 := a.parts[0], a.parts[1], a.parts[2], a.parts[3], a.parts[4]
	y0, y1, y2, y3, y4 := b.parts[0], b.parts[1], b.parts[2], b.parts[3], b.parts[4]
	// What would stand at 2^255 or above comes round to the lower parts, by 19.
	f1, f2, f3, f4 := y1*fold, y2*fold, y3*fold, y4*fold
	p0 := product(x0, y0).plus(product(x1, f4)).plus(product(x2, f3)).plus(product(x3, f2)).plus(product(x4, f1))
	p1 := product(x0, y1).plus(product(x1, y0)).plus(product(x2, f4)).plus(product(x3, f3)).plus(product(x4, f2))
	p2 := product(x0, y2).plus(product(x1, y1)).plus(product(x2, y0)).plus(product(x3, f4)).plus(product(x4, f3))
	p3 := product(x0, y3).plus(product(x1, y2)).plus(product(x2, y1)).plus(product(x3, y0)).plus(product(x4, f4))
	p4 := product(x0, y4).plus(product(x1, y3)).plus(product(x2, y2)).plus(product(x3, y1)).plus(product(x4, y0))
	// p0 is below 77 * 2^104 and p4, which alone goes on by 19, below 5 * 2^104:
	// what goes on has at most 60 bits.
	return carried(
		p0.below()+p4.above()*fold,
		p1.below()+p0.above(),
		p2.below()+p1.above(),
		p3.below()+p2.above(),
		p4.below()+p3.above(),
	)
}

// Neg is 0 without a.
func (a Elem) Neg() Elem { return Elem{}.Sub(a) }

// Inv is that by which a is to be multiplied to make 1; of 0 it is 0.
func (a Elem) Inv() Elem {
	// It is the power p - 2, which is 32 (2^250 - 1) + 8 + 3.
	return a.ones(250).squares(5).Mul(a.squares(3)).Mul(a.ones(2))
}

// Root is the root of a that is not odd, and whether there is one.
func (a Elem) Root() (Elem, bool) {
	r, is := a.anyRoot()
	if r.Odd() {
		r = r.Neg()
	}
	return r, is
}

// Same tells whether both are one number modulo p.
func (a Elem) Same(b Elem) bool { return a.least() == b.least() }

// Odd tells whether a is, as a number below p.
func (a Elem) Odd() bool { return a.least()[0]&1 == 1 }

// carried is the number of these parts. What one of them has above its bits
// goes to the next one, and that of the last one to the first one, by 19. It is
// below 2^13: so each part of the answer is below 2^51 + 2^18, and the whole
// below 2p.
func carried(a0, a1, a2, a3, a4 uint64) Elem {
	return Elem{[count]uint64{
		a0&full + a4>>width*fold,
		a1&full + a0>>width,
		a2&full + a1>>width,
		a3&full + a2>>width,
		a4&full + a3>>width,
	}}
}

// least has the parts of a below p, each within its bits.
func (a Elem) least() [count]uint64 {
	x := a.parts
	// Just if x is p or above, 19 more reach 2^255; x without p is then these 19
	// more, without 2^255.
	over := uint64(fold)
	for _, part := range x {
		over = (part + over) >> width
	}
	rest := over * fold
	for i, part := range x {
		x[i], rest = (part+rest)&full, (part+rest)>>width
	}
	return x
}
