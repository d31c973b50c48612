package dec

import (
	"slices"

	"zermelo/api"
	"zermelo/guard"
	"zermelo/num"
)

// Integers that decimals are made of, and their powers of 10.

// isZero reports whether an integer is 0.
func isZero(a api.Int) bool { return len(a.Abs) == 0 }

// isOdd reports whether an integer is odd.
func isOdd(a api.Int) bool { return !isZero(a) && a.Abs[0]%2 == 1 }

// endsIn0 reports whether an integer is a multiple of 10.
func endsIn0(a api.Int) bool {
	_, digit := divided(a, num.Of(10))
	return isZero(digit)
}

// magnitude returns an integer without its sign; both share limbs.
func magnitude(a api.Int) api.Int { return api.Int{Abs: a.Abs} }

// negative returns the integer with the other sign; both share limbs.
func negative(a api.Int) api.Int { return api.Int{Neg: !a.Neg && !isZero(a), Abs: a.Abs} }

// divided returns the quotient, rounded downward, and the rest.
func divided(a, b api.Int) (quotient, rest api.Int) {
	quotient, rest, e := num.Div(a, b)
	guard.Demand(e == api.OK, e)
	return quotient, rest
}

// ten returns 10 to the power of n.
func ten(n int) api.Int {
	powers := [19]int{1} // all that an int holds
	fill := func() {
		for i := range len(powers) - 1 {
			powers[i+1] = 10 * powers[i]
		}
	}
	fill()
	if n < len(powers) {
		return num.Of(powers[n])
	}
	most := len(powers) - 1
	high := guard.Must(num.Pow(num.Of(powers[most]), n/most))
	return guard.Must(num.Mul(high, num.Of(powers[n%most])))
}

// scaled returns a times 10 to the power of n.
func scaled(a api.Int, n int) api.Int { return guard.Must(num.Mul(a, ten(n))) }

// aligned returns two decimals as multiples of one unit, that with the places of the one that has more.
func aligned(a, b api.Val) (x, y api.Int, places int) {
	places = max(a.N, b.N)
	return scaled(a.Int, places-a.N), scaled(b.Int, places-b.N), places
}

// combined returns the decimal of an exact operation on multiples of one unit.
func combined(a, b api.Val, operation func(x, y api.Int) (api.Int, api.Errno)) api.Val {
	x, y, places := aligned(a, b)
	return made(guard.Must(operation(x, y)), places)
}

// around returns the greatest integer that is not above a decimal, and the least one that is not below it.
func around(a api.Val) (below, above api.Int) {
	below, rest := divided(a.Int, ten(a.N))
	if isZero(rest) {
		return below, below
	}
	return below, guard.Must(num.Add(below, num.Of(1)))
}

// made returns the decimal of n times 10 to the power of -places.
func made(n api.Int, places int) api.Val {
	if places == 0 {
		n, places = scaled(n, 1), 1
	}
	// At most MaxScale - 1 zeros go, and these steps take off any number of them below 32.
	for _, zeros := range [...]int{16, 8, 4, 2, 1} {
		if places <= zeros {
			continue
		}
		if shorter, rest := divided(n, ten(zeros)); isZero(rest) {
			n, places = shorter, places-zeros
		}
	}
	guard.Demand(len(n.Abs) <= api.MaxLimbs, api.ErrLimit)
	return api.Val{Kind: api.VDec, N: places, Int: api.Int{Neg: n.Neg, Abs: slices.Clone(n.Abs)}}
}
