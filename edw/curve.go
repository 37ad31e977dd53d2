package edw

import "isthmus/num"

const (
	// factorBytes are those of d, which is -121665 by 121666: each sum needs it, and
	// to divide for each would take longer than the sum.
	factorBytes = "\xa3\x78\x59\x13\xca\x4d\xeb\x75\xab\xd8\x41\x41\x4d\x0a\x70\x00\x98\xe8\x79\x77\x79\x40\xc7\x8c\x73\xfe\x6f\x2b\xee\x6c\x03\x52"
	half        = 4 // bits of a scalar by which Mul goes on at once: half a byte
)

// factor is d of the curve's equation.
func factor() num.Elem {
	d, _ := num.Of(factorBytes)
	return d
}

// pointOf is the point that has these coordinates.
func pointOf(x, y num.Elem) Point {
	return Point{x, y, num.Small(1), x.Mul(y)}
}

// none tells whether p is none.
func (p Point) none() bool { return p.z.Same(num.Elem{}) }

// parted has the bytes of s without the highest bit, and whether that is set.
func parted(s string) (string, bool) {
	var b [size]byte
	copy(b[:], s)
	odd := b[size-1]&sign != 0
	b[size-1] &^= sign
	return string(b[:]), odd
}

// besides is the x that is not odd of the points that have this y, and whether
// there is one. x^2 is y^2 - 1 by d y^2 + 1, which is never 0: d has no root, and
// -1 has one.
func besides(y num.Elem) (num.Elem, bool) {
	one, square := num.Small(1), y.Mul(y)
	return square.Sub(one).Mul(factor().Mul(square).Add(one).Inv()).Root()
}

// plus is the sum of two points, neither of which is none. It holds for all of
// them, the same one twice too, and its z is never 0, since d has no root. a to h
// are named as in RFC 8032, section 5.1.4.
func (p Point) plus(q Point) Point {
	a := p.y.Sub(p.x).Mul(q.y.Sub(q.x))
	b := p.y.Add(p.x).Mul(q.y.Add(q.x))
	c := factor().Mul(p.t).Mul(q.t.Add(q.t))
	d := p.z.Mul(q.z.Add(q.z))
	e, f, g, h := b.Sub(a), d.Sub(c), d.Add(c), b.Add(a)
	return Point{e.Mul(f), g.Mul(h), f.Mul(g), e.Mul(h)}
}

// double is the sum of p with itself, in fewer steps than by plus.
func (p Point) double() Point {
	a, b := p.x.Mul(p.x), p.y.Mul(p.y)
	c := p.z.Mul(p.z.Add(p.z))
	both := p.x.Add(p.y)
	h, g := a.Add(b), a.Sub(b)
	e, f := h.Sub(both.Mul(both)), c.Add(g)
	return Point{e.Mul(f), g.Mul(h), f.Mul(g), e.Mul(h)}
}

// doubled is p, doubled so many times.
func (p Point) doubled(times int) Point {
	for range times {
		p = p.double()
	}
	return p
}

// few has p not at all, once, and so on, as often as half a byte tells.
func (p Point) few() [1 << half]Point {
	out := [1 << half]Point{Zero()}
	for i := 1; i < len(out); i++ {
		out[i] = out[i-1].plus(p)
	}
	return out
}
