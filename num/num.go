// Package num is layer 1: see shared/doc/01-num.md.
package num

import (
	"math/bits"

	"zermelo/api"
	"zermelo/guard"
)

// Check reports whether an integer is formed.
func Check(a api.Int) api.Errno {
	top := len(a.Abs) - 1
	switch {
	case top >= api.MaxBig, top >= 0 && a.Abs[top] == 0, top < 0 && a.Neg:
		return api.ErrArg
	}
	return api.OK
}

// Compare returns -1, 0 or 1 as a is less than b, the same, or greater.
func Compare(a, b api.Int) int {
	if Check(a) != api.OK || Check(b) != api.OK {
		return 0
	}
	switch {
	case a.Neg && b.Neg:
		return compare(b.Abs, a.Abs)
	case a.Neg:
		return -1
	case b.Neg:
		return 1
	}
	return compare(a.Abs, b.Abs)
}

// Add returns the sum of two integers.
func Add(a, b api.Int) (api.Int, api.Errno) { return ring(a, b, sum) }

// Sub returns the difference of two integers.
func Sub(a, b api.Int) (api.Int, api.Errno) { return ring(a, b, difference) }

// Mul returns the product of two integers.
func Mul(a, b api.Int) (api.Int, api.Errno) { return ring(a, b, product) }

// ring carries out an operation that all formed integers have, and whose result may have too many limbs.
func ring(a, b api.Int, operation func(a, b api.Int) api.Int) (result api.Int, e api.Errno) {
	e = guard.Attempt(func() {
		demandFormed(a, b)
		result = fitting(operation(a, b))
	})
	return result, e
}

// Div returns the quotient, rounded downward, and the rest.
func Div(a, b api.Int) (q, r api.Int, e api.Errno) {
	e = guard.Attempt(func() {
		demandFormed(a, b)
		guard.Demand(len(b.Abs) > 0, api.ErrZero)
		q, r = floored(a, b)
	})
	return q, r, e
}

// Pow returns a to the power of n.
func Pow(a api.Int, n int) (result api.Int, e api.Errno) {
	e = guard.Attempt(func() {
		demandFormed(a)
		guard.Demand(n >= 0 && n <= api.MaxPower, api.ErrArg)
		// The power has more bits than this: one that is far too large is not computed.
		guard.Demand((bitLen(a.Abs)-1)*n < 32*api.MaxBig, api.ErrLimit)
		result = fitting(signed(a.Neg && n%2 == 1, power(a.Abs, n)))
	})
	return result, e
}

// Gcd returns the greatest common divisor of two integers, and factors by which they give it.
func Gcd(a, b api.Int) (g, x, y api.Int, e api.Errno) {
	e = guard.Attempt(func() {
		demandFormed(a, b)
		g, x, y = divisor(a, b)
	})
	return g, x, y, e
}

// Root returns the greatest integer whose n-th power is not above a.
func Root(a api.Int, n int) (result api.Int, e api.Errno) {
	e = guard.Attempt(func() {
		demandFormed(a)
		guard.Demand(n >= 1 && n <= 100, api.ErrArg)
		guard.Demand(!a.Neg || n%2 == 1, api.ErrNone)
		result = floorRoot(a, n)
	})
	return result, e
}

// Bits returns how many binary digits the magnitude has.
func Bits(a api.Int) (int, api.Errno) {
	if e := Check(a); e != api.OK {
		return 0, e
	}
	return bitLen(a.Abs), api.OK
}

// Of returns an int as an integer.
func Of(n int) api.Int {
	magnitude := uint64(n)
	if n < 0 {
		magnitude = -magnitude
	}
	return signed(n < 0, trim([]uint32{uint32(magnitude), uint32(magnitude >> 32)}))
}

// To returns an integer as an int.
func To(a api.Int) (n int, e api.Errno) {
	e = guard.Attempt(func() {
		demandFormed(a)
		guard.Demand(bitLen(a.Abs) <= 64, api.ErrLimit)
		n = word(a)
	})
	return n, e
}

// word returns an integer with at most 64 bits as an int, if it is one.
func word(a api.Int) int {
	magnitude := uint64(0)
	for i, limb := range limbs(a.Abs, 2) {
		magnitude |= uint64(limb) << (32 * i)
	}
	switch {
	case a.Neg:
		guard.Demand(magnitude <= 1<<63, api.ErrLimit)
		return int(-magnitude)
	default:
		guard.Demand(magnitude < 1<<63, api.ErrLimit)
		return int(magnitude)
	}
}

// Text returns the digits of an integer to a base.
func Text(a api.Int, base int) (s string, e api.Errno) {
	e = guard.Attempt(func() {
		demandFormed(a)
		demandBase(base)
		s = text(a, base)
	})
	return s, e
}

// Parse returns the integer with such digits.
func Parse(s string, base int) (a api.Int, e api.Errno) {
	e = guard.Attempt(func() {
		demandBase(base)
		a = parse(s, base)
	})
	return a, e
}

// demandFormed ends a call, unless all of its integers are formed.
func demandFormed(l ...api.Int) {
	for _, a := range l {
		guard.Demand(Check(a) == api.OK, api.ErrArg)
	}
}

// demandBase ends a call, unless there are digits to a base.
func demandBase(base int) {
	guard.Demand(base >= 2 && base <= len(digits), api.ErrArg)
}

// fitting returns an integer, or ends a call if it has too many limbs.
func fitting(a api.Int) api.Int {
	guard.Demand(len(a.Abs) <= api.MaxBig, api.ErrLimit)
	return a
}

// bitLen returns how many binary digits a magnitude has.
func bitLen(a []uint32) int {
	if len(a) == 0 {
		return 0
	}
	top := len(a) - 1
	return 32*top + bits.Len32(a[top])
}
