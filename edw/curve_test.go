package edw_test

import "math/big"

// The calls are held against the curve as the document writes it down: points
// with two coordinates, whose sum is divided at once, in package math/big. That is
// another way than the package's, which has fractions and divides for bytes alone.

var (
	prime = plus(power(255), -19)
	whole = new(big.Int).Add(power(252), decimal("27742317777372353535851937790883648493")) // L
	bend  = over(big.NewInt(-121665), big.NewInt(121666))                                   // d
)

func decimal(s string) *big.Int {
	n, ok := new(big.Int).SetString(s, 10)
	if !ok {
		panic(s)
	}
	return n
}

func power(n uint) *big.Int { return new(big.Int).Lsh(big.NewInt(1), n) }

func plus(n *big.Int, d int64) *big.Int { return new(big.Int).Add(n, big.NewInt(d)) }

func modulo(n *big.Int) *big.Int { return new(big.Int).Mod(n, prime) }

func times(a, b *big.Int) *big.Int { return modulo(new(big.Int).Mul(a, b)) }

func over(a, b *big.Int) *big.Int { return times(a, new(big.Int).ModInverse(modulo(b), prime)) }

// text has the 32 bytes of n, which must be below 2^256, the lowest first.
func text(n *big.Int) string {
	b := n.FillBytes(make([]byte, 32))
	for i := range 16 {
		b[i], b[31-i] = b[31-i], b[i]
	}
	return string(b)
}

// value is the number whose bytes s is.
func value(s string) *big.Int {
	b := make([]byte, len(s))
	for i := range len(s) {
		b[len(s)-1-i] = s[i]
	}
	return new(big.Int).SetBytes(b)
}

// spot is a point of the curve.
type spot struct{ x, y *big.Int }

var (
	nowhere = spot{new(big.Int), big.NewInt(1)}
	base, _ = decoded(text(over(big.NewInt(4), big.NewInt(5)))) // as RFC 8032 has it
)

// decoded is the point whose bytes s is, and whether there is one.
func decoded(s string) (spot, bool) {
	y := value(s)
	odd := y.Bit(255)
	y.SetBit(y, 255, 0)
	if y.Cmp(prime) >= 0 {
		return spot{}, false
	}
	square := times(y, y)
	x := new(big.Int).ModSqrt(over(plus(square, -1), plus(times(bend, square), 1)), prime)
	if x == nil || x.Sign() == 0 && odd == 1 {
		return spot{}, false
	}
	if x.Bit(0) != odd {
		x.Sub(prime, x)
	}
	return spot{x, y}, true
}

// bytes are those of a.
func (a spot) bytes() string {
	return text(new(big.Int).SetBit(a.y, 255, a.x.Bit(0)))
}

// on tells whether a is a point of the curve.
func (a spot) on() bool {
	xx, yy := times(a.x, a.x), times(a.y, a.y)
	left, right := new(big.Int).Sub(yy, xx), plus(times(bend, times(xx, yy)), 1)
	return modulo(left).Cmp(modulo(right)) == 0
}

// add is the sum.
func (a spot) add(b spot) spot {
	all := times(bend, times(times(a.x, b.x), times(a.y, b.y)))
	x := new(big.Int).Add(times(a.x, b.y), times(a.y, b.x))
	y := new(big.Int).Add(times(a.y, b.y), times(a.x, b.x))
	return spot{over(x, plus(all, 1)), over(y, plus(new(big.Int).Neg(all), 1))}
}

// neg has the other x.
func (a spot) neg() spot { return spot{modulo(new(big.Int).Neg(a.x)), a.y} }

// often is a, added as often as n tells.
func (a spot) often(n *big.Int) spot {
	out := nowhere
	for i := n.BitLen() - 1; i >= 0; i-- {
		out = out.add(out)
		if n.Bit(i) == 1 {
			out = out.add(a)
		}
	}
	return out
}

// same tells whether both are one point.
func (a spot) same(b spot) bool { return a.x.Cmp(b.x) == 0 && a.y.Cmp(b.y) == 0 }

// small are the eight points of which eight times are the zero point, each a
// multiple of the second one.
func small() []spot {
	for y := int64(2); ; y++ {
		p, is := decoded(text(big.NewInt(y)))
		if !is {
			continue
		}
		// What L leaves of a point hangs on its part of small order alone.
		p = p.often(whole)
		if p.often(big.NewInt(4)).same(nowhere) {
			continue
		}
		out := []spot{nowhere}
		for len(out) < 8 {
			out = append(out, out[len(out)-1].add(p))
		}
		return out
	}
}
