package num

import "zermelo/api"

// Operations on integers with their signs. Their arguments are formed, but for the number of limbs.

// signed returns the integer with a magnitude; 0 is never negative.
func signed(neg bool, abs []uint32) api.Int {
	return api.Int{Neg: neg && len(abs) > 0, Abs: abs}
}

// negative returns the integer with the other sign and the same limbs.
func negative(a api.Int) api.Int { return signed(!a.Neg, a.Abs) }

// sum returns a + b.
func sum(a, b api.Int) api.Int {
	switch {
	case a.Neg == b.Neg:
		return signed(a.Neg, plus(a.Abs, b.Abs))
	case compare(a.Abs, b.Abs) >= 0:
		return signed(a.Neg, minus(a.Abs, b.Abs))
	default:
		return signed(b.Neg, minus(b.Abs, a.Abs))
	}
}

// difference returns a - b.
func difference(a, b api.Int) api.Int { return sum(a, negative(b)) }

// product returns a b.
func product(a, b api.Int) api.Int { return signed(a.Neg != b.Neg, times(a.Abs, b.Abs)) }

// floored returns the quotient, rounded downward, and the rest, which has the sign of b.
func floored(a, b api.Int) (q, r api.Int) {
	quotient, rest := divide(a.Abs, b.Abs)
	if a.Neg != b.Neg && len(rest) > 0 {
		quotient = plus(quotient, one())
		rest = minus(b.Abs, rest)
	}
	return signed(a.Neg != b.Neg, quotient), signed(b.Neg, rest)
}

// divisor returns the greatest common divisor, and x and y with g = a x + b y.
func divisor(a, b api.Int) (g, x, y api.Int) {
	last, next := a.Abs, b.Abs
	// But for multiples of b, last is the magnitude of a times factor, and next is that times following.
	// As Euclid's steps go, no factor is larger than b, or than 1.
	factor, following := signed(false, one()), api.Int{}
	for len(next) > 0 {
		quotient, rest := divide(last, next)
		last, next = next, rest
		less := product(signed(false, quotient), following)
		factor, following = following, difference(factor, less)
	}
	g = signed(false, clone(last))
	x = signed(factor.Neg != a.Neg, factor.Abs)
	// What a x leaves of g is a multiple of b.
	if len(b.Abs) > 0 {
		y, _ = floored(difference(g, product(a, x)), b)
	}
	return g, x, y
}

// floorRoot returns the greatest integer whose n-th power is not above a, which is not negative if n is even.
func floorRoot(a api.Int, n int) api.Int {
	found := root(a.Abs, n)
	switch {
	case a.Neg && compare(power(found, n), a.Abs) < 0: // downward is away from 0
		return signed(true, plus(found, one()))
	default:
		return signed(a.Neg, found)
	}
}
