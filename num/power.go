package num

// squares is the power 2^n of a.
func (a Elem) squares(n uint) Elem {
	if n == 0 {
		return a
	}
	return a.Mul(a).squares(n - 1)
}

// ones is the power 2^n - 1 of a, which is n bits that are all 1.
func (a Elem) ones(n uint) Elem {
	if n == 0 {
		return Small(1)
	}
	half := a.ones(n / 2)
	even := half.squares(n / 2).Mul(half)
	if n%2 == 0 {
		return even
	}
	return even.squares(1).Mul(a)
}

// anyRoot is one of the roots of a, and whether there is one.
func (a Elem) anyRoot() (Elem, bool) {
	// This is the power (p + 3) / 8. If a has a root, its power (p - 1) / 2 is 1:
	// so the fourth power of r is the square of a, and the square of r is a or -a.
	r := a.ones(251).squares(1)
	square := r.Mul(r)
	switch {
	case square.Same(a):
		return r, true
	case square.Same(a.Neg()):
		return r.Mul(rootOfMinusOne()), true
	}
	return Elem{}, false
}

// rootOfMinusOne is the power (p - 1) / 4 of 2. It is written out, since to work
// it out would make a root cost twice as much.
func rootOfMinusOne() Elem {
	return Elem{[count]uint64{1718705420411056, 234908883556509, 2233514472574048, 2117202627021982, 765476049583133}}
}
