package mont_test

import "math/big"

// The calls are held against the curve as it is written down: points with both
// coordinates, added by the rule of chords and tangents in package math/big.
// That is another way than the ladder, which knows no second coordinate.

var (
	prime = plus(power(255), -19)
	curve = big.NewInt(486662)
)

func power(n uint) *big.Int { return new(big.Int).Lsh(big.NewInt(1), n) }

func plus(n *big.Int, d int64) *big.Int { return new(big.Int).Add(n, big.NewInt(d)) }

func modulo(n *big.Int) *big.Int { return new(big.Int).Mod(n, prime) }

func times(a, b *big.Int) *big.Int { return modulo(new(big.Int).Mul(a, b)) }

func over(a, b *big.Int) *big.Int { return times(a, new(big.Int).ModInverse(modulo(b), prime)) }

// text has the 32 bytes of n, which must be below 2^256, the lowest first.
func text(n *big.Int) string {
	b := n.FillBytes(make([]byte, 32))
	for i := range 16 {
		b[i], b[31-i] = b[31-i], b[i]
	}
	return string(b)
}

// value is the number whose bytes s is.
func value(s string) *big.Int {
	b := make([]byte, len(s))
	for i := range len(s) {
		b[len(s)-1-i] = s[i]
	}
	return new(big.Int).SetBytes(b)
}

// spot is a point of the curve, by 1, or of its twist, by 2: by * y^2 = x^3 +
// 486662 x^2 + x. That which has no coordinates is the one that is far.
type spot struct {
	far  bool
	x, y *big.Int
	by   *big.Int
}

// cubic is x^3 + 486662 x^2 + x.
func cubic(x *big.Int) *big.Int {
	inner := plus(times(new(big.Int).Add(x, curve), x), 1)
	return times(inner, x)
}

// onTwist tells whether the point with this first coordinate is one of the twist
// and none of the curve.
func onTwist(x *big.Int) bool { return big.Jacobi(cubic(modulo(x)), prime) == -1 }

// spotOf is a point with the first coordinate x. 2 has no root modulo p: so
// there is one by 1 or by 2.
func spotOf(x *big.Int) spot {
	by := big.NewInt(1)
	if onTwist(x) {
		by = big.NewInt(2)
	}
	x = modulo(x)
	y := new(big.Int).ModSqrt(over(cubic(x), by), prime)
	return spot{x: x, y: y, by: by}
}

// add is the sum of two points of one curve.
func (a spot) add(b spot) spot {
	switch {
	case a.far:
		return b
	case b.far:
		return a
	}
	var slope *big.Int
	switch {
	case a.x.Cmp(b.x) != 0:
		slope = over(new(big.Int).Sub(a.y, b.y), new(big.Int).Sub(a.x, b.x))
	case modulo(new(big.Int).Add(a.y, b.y)).Sign() == 0:
		return spot{far: true, by: a.by}
	default:
		rise := new(big.Int).Mul(big.NewInt(3), times(a.x, a.x))
		rise.Add(rise, new(big.Int).Mul(big.NewInt(2), times(curve, a.x)))
		slope = over(plus(rise, 1), new(big.Int).Mul(big.NewInt(2), times(a.by, a.y)))
	}
	x := times(a.by, times(slope, slope))
	x.Sub(x, curve).Sub(x, a.x).Sub(x, b.x)
	x = modulo(x)
	y := times(slope, new(big.Int).Sub(a.x, x))
	return spot{x: x, y: modulo(y.Sub(y, a.y)), by: a.by}
}

// often is a, added as often as n tells.
func (a spot) often(n *big.Int) spot {
	out := spot{far: true, by: a.by}
	for i := n.BitLen() - 1; i >= 0; i-- {
		out = out.add(out)
		if n.Bit(i) == 1 {
			out = out.add(a)
		}
	}
	return out
}

// first has the bytes of the first coordinate: 32 bytes 0, if there is none.
func (a spot) first() string {
	if a.far {
		return text(new(big.Int))
	}
	return text(a.x)
}

// clamped is the number of a secret, as the document says which of its bits count.
func clamped(secret string) *big.Int {
	n := value(secret)
	for _, i := range []int{0, 1, 2, 255} {
		n.SetBit(n, i, 0)
	}
	return n.SetBit(n, 254, 1)
}

// number is that of a public key: its first 255 bits, modulo p.
func number(public string) *big.Int {
	n := value(public)
	return modulo(n.SetBit(n, 255, 0))
}

// made is what Shared must make, and 32 bytes 0 if it must answer ErrWeak.
func made(secret, public string) string {
	return spotOf(number(public)).often(clamped(secret)).first()
}
