package dec

import (
	"zermelo/api"
	"zermelo/guard"
	"zermelo/num"
)

const (
	maxNumerator = 290  // limbs of the numerator of a fraction: the number of its units is formed, too
	maxPlaces    = 2800 // places of an exact power: 10 to the power of that, and of MaxScale more, is formed
)

// fraction is the number n / d times 10 to the power of -places; d is not 0.
type fraction struct {
	n, d   api.Int
	places int
}

// exact returns a decimal as a fraction.
func exact(a api.Val) fraction { return fraction{n: a.Int, d: num.Of(1), places: a.N} }

// itself is the operation that changes nothing.
func itself(f fraction) fraction { return f }

// times returns the operation of multiplying by a decimal.
func times(b api.Val) func(fraction) fraction {
	return func(f fraction) fraction {
		return fraction{n: guard.Must(num.Mul(f.n, b.Int)), d: f.d, places: f.places + b.N}
	}
}

// over returns the operation of dividing by a decimal.
func over(b api.Val) func(fraction) fraction {
	guard.Demand(!isZero(b.Int), api.ErrZero)
	return func(f fraction) fraction {
		return fraction{n: f.n, d: guard.Must(num.Mul(f.d, b.Int)), places: f.places - b.N}
	}
}

// raised returns the operation of taking the n-th power.
func raised(n int) func(fraction) fraction {
	guard.Demand(n >= -api.MaxPower && n <= api.MaxPower, api.ErrArg)
	size := max(n, -n)
	return func(f fraction) fraction {
		guard.Demand(n >= 0 || !isZero(f.n), api.ErrZero)
		guard.Demand(f.places*size <= maxPlaces, api.ErrLimit)
		power := fraction{n: guard.Must(num.Pow(f.n, size)), d: guard.Must(num.Pow(f.d, size)), places: f.places * size}
		if n < 0 {
			return fraction{n: power.d, d: power.n, places: -power.places}
		}
		return power
	}
}

// rounded returns the decimal of what an operation makes of a, rounded once to so many places.
func rounded(a api.Val, operation func(fraction) fraction, places int) api.Val {
	q, _ := nearest(operation(exact(a)), places)
	return made(q, places)
}

// nearest returns the number of units of 10 to the power of -places that is nearest to a fraction,
// the even one of two that are equally near, and what is left of the numerator.
func nearest(f fraction, places int) (q, rest api.Int) {
	n, d := f.n, f.d
	if places >= f.places {
		n = scaled(n, places-f.places)
	} else {
		d = scaled(d, f.places-places)
	}
	q, rest = divided(n, d)
	if side := halves(rest, d); side > 0 || side == 0 && isOdd(q) {
		q = guard.Must(num.Add(q, num.Of(1)))
		rest = guard.Must(num.Sub(rest, d))
	}
	return q, rest
}

// halves returns -1, 0 or 1 as the magnitude of rest is less than half of that of d, the same, or greater.
func halves(rest, d api.Int) int {
	// rest is not doubled: that might have too many limbs.
	size := magnitude(rest)
	return num.Compare(size, guard.Must(num.Sub(magnitude(d), size)))
}

// nearestRoot returns the integer that is nearest to the square root of one that is not negative.
func nearestRoot(square api.Int) api.Int {
	root := guard.Must(num.Root(square, 2))
	above := guard.Must(num.Add(root, num.Of(1)))
	// The square of what lies midway is root times above and a quarter: no integer is that.
	if num.Compare(guard.Must(num.Mul(root, above)), square) < 0 {
		return above
	}
	return root
}

// demandShown ends a call, unless c shows that v is the decimal of what n / d is rounded to.
func demandShown(n, d api.Int, v api.Val, c api.DecCert) {
	demand := func(holds bool) { guard.Demand(holds, api.ErrProof) }
	demand(Check(v) == api.OK && num.Check(c.Q) == api.OK && num.Check(c.Rest) == api.OK)
	side := halves(c.Rest, d)
	demand(side < 0 || side == 0 && !isOdd(c.Q))
	sum := guard.Must(num.Add(guard.Must(num.Mul(c.Q, d)), c.Rest))
	demand(num.Compare(sum, scaled(n, api.MaxScale)) == 0)
	demand(num.Compare(c.Q, scaled(v.Int, api.MaxScale-v.N)) == 0)
}
