package mont

import "isthmus/num"

const (
	highest = 254    // the place of the highest bit that a clamped secret has
	quarter = 121665 // (486662 - 2) / 4, of the curve's equation
)

// point is a point of the curve, or of its twist, by its first coordinate, which
// is x / z. The point that has none, which added to another one leaves it as it
// is, is 1 / 0.
type point struct{ x, z num.Elem }

// times is the first coordinate of the point that has the first coordinate x,
// taken as often as the 32 bytes tell, the lowest first; 0, if it has none.
func times(often string, x num.Elem) num.Elem {
	one := num.Small(1)
	// The second point is always the first one and that of x.
	pair := [2]point{{x: one}, {x: x, z: one}}
	for down := range highest + 1 {
		bit := bitAt(often, highest-down)
		pair[bit], pair[1-bit] = step(pair[bit], pair[1-bit], x)
	}
	return pair[0].x.Mul(pair[0].z.Inv())
}

// bitAt is the bit of that place, from the lowest on.
func bitAt(s string, place int) int {
	return int(s[place/8] >> (place % 8) & 1)
}

// step is the double of a, and the sum of a and b, if x is the first coordinate
// of their difference. aa, bb, e, da and cb are named as in RFC 7748, section 5.
func step(a, b point, x num.Elem) (point, point) {
	sum, difference := a.x.Add(a.z), a.x.Sub(a.z)
	aa, bb := sum.Mul(sum), difference.Mul(difference)
	e := aa.Sub(bb)
	da, cb := b.x.Sub(b.z).Mul(sum), b.x.Add(b.z).Mul(difference)
	plus, minus := da.Add(cb), da.Sub(cb)
	double := point{
		x: aa.Mul(bb),
		z: e.Mul(aa.Add(num.Small(quarter).Mul(e))),
	}
	both := point{
		x: plus.Mul(plus),
		z: x.Mul(minus.Mul(minus)),
	}
	return double, both
}
