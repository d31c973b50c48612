package num

import (
	"cmp"
	"iter"
	"math/bits"
	"slices"
)

// Magnitudes are limbs, the least one first, the last one not 0; 0 has none. What these functions return is new memory.

// halving is the number of limbs of the shorter factor from which on products are made by halves: for shorter ones that takes longer.
const halving = 80

// limbs gives so many limbs of a, with their indices: 0 behind the last one.
func limbs(a []uint32, many int) iter.Seq2[int, uint32] {
	return func(yield func(int, uint32) bool) {
		for i := range many {
			limb := uint32(0)
			if i < len(a) {
				limb = a[i]
			}
			if !yield(i, limb) {
				return
			}
		}
	}
}

// clone returns a copy of a magnitude.
func clone(a []uint32) []uint32 { return append([]uint32(nil), a...) }

// one returns the magnitude 1.
func one() []uint32 { return []uint32{1} }

// trim takes off limbs 0 on top.
func trim(a []uint32) []uint32 {
	for len(a) > 0 && a[len(a)-1] == 0 {
		a = a[:len(a)-1]
	}
	return a
}

// compare returns -1, 0 or 1 as a is less than b, the same, or greater.
func compare(a, b []uint32) int {
	if len(a) != len(b) {
		return cmp.Compare(len(a), len(b))
	}
	for i, limb := range slices.Backward(a) {
		if limb != b[i] {
			return cmp.Compare(limb, b[i])
		}
	}
	return 0
}

// plus returns a + b.
func plus(a, b []uint32) []uint32 {
	if len(a) < len(b) {
		a, b = b, a
	}
	result := make([]uint32, 0, len(a)+1)
	carry := uint64(0)
	for i, limb := range limbs(b, len(a)) {
		carry += uint64(a[i]) + uint64(limb)
		result = append(result, uint32(carry))
		carry >>= 32
	}
	return trim(append(result, uint32(carry)))
}

// minus returns a - b, for b not above a.
func minus(a, b []uint32) []uint32 {
	result := make([]uint32, 0, len(a))
	borrow := uint64(0)
	for i, limb := range limbs(b, len(a)) {
		d := uint64(a[i]) - uint64(limb) - borrow
		result = append(result, uint32(d))
		borrow = d >> 63
	}
	return trim(result)
}

// times returns a b.
func times(a, b []uint32) []uint32 {
	var byHalves func(a, b []uint32) []uint32
	byHalves = func(a, b []uint32) []uint32 {
		if min(len(a), len(b)) < halving {
			return timesLimbs(a, b)
		}
		half := (max(len(a), len(b)) + 1) / 2
		lowA, highA := split(a, half)
		lowB, highB := split(b, half)
		low, high := byHalves(lowA, lowB), byHalves(highA, highB)
		// Three products instead of four: that of the sums has both of the mixed ones in it.
		all := byHalves(plus(lowA, highA), plus(lowB, highB))
		mixed := minus(minus(all, low), high)
		result := make([]uint32, len(a)+len(b))
		addAt(result, low, 0)
		addAt(result, mixed, half)
		addAt(result, high, 2*half)
		return trim(result)
	}
	return byHalves(a, b)
}

// split returns the first limbs of a, so many, and the other ones: both share its memory.
func split(a []uint32, many int) (low, high []uint32) {
	many = min(many, len(a))
	return trim(a[:many]), a[many:]
}

// addAt adds b to a from the limb at on. What is carried out of a is lost.
func addAt(a, b []uint32, at int) {
	carry := uint64(0)
	for i, limb := range limbs(b, len(a)-at) {
		if i >= len(b) && carry == 0 {
			return
		}
		carry += uint64(a[at+i]) + uint64(limb)
		a[at+i] = uint32(carry)
		carry >>= 32
	}
}

// timesLimbs returns a b: each limb times each limb.
func timesLimbs(a, b []uint32) []uint32 {
	result := make([]uint32, len(a)+len(b))
	for i, limb := range limbs(a, len(a)) {
		carry := uint64(0)
		for j, other := range b {
			carry += uint64(limb)*uint64(other) + uint64(result[i+j])
			result[i+j] = uint32(carry)
			carry >>= 32
		}
		result[i+len(b)] = uint32(carry)
	}
	return trim(result)
}

// timesPlus returns a times a limb, and another limb added.
func timesPlus(a []uint32, factor, added uint32) []uint32 {
	result := make([]uint32, 0, len(a)+1)
	carry := uint64(added)
	for _, limb := range limbs(a, len(a)) {
		carry += uint64(limb) * uint64(factor)
		result = append(result, uint32(carry))
		carry >>= 32
	}
	return trim(append(result, uint32(carry)))
}

// shiftLeft returns a times 2 to the power of n.
func shiftLeft(a []uint32, n int) []uint32 {
	whole, part := n/32, n%32
	result := make([]uint32, whole, whole+len(a)+1)
	carry := uint64(0)
	for _, limb := range limbs(a, len(a)+1) {
		carry |= uint64(limb) << part
		result = append(result, uint32(carry))
		carry >>= 32
	}
	return trim(result)
}

// shiftRight returns a divided by 2 to the power of n, rounded downward.
func shiftRight(a []uint32, n int) []uint32 {
	whole, part := n/32, n%32
	if whole >= len(a) {
		return nil
	}
	a = a[whole:]
	result := make([]uint32, len(a))
	for i, above := range limbs(a[1:], len(a)) {
		result[i] = uint32((uint64(above)<<32 | uint64(a[i])) >> part)
	}
	return trim(result)
}

// divide returns the quotient, rounded downward, and the rest; b is not 0.
func divide(a, b []uint32) (quotient, rest []uint32) {
	switch {
	case compare(a, b) < 0:
		return nil, clone(a)
	case len(b) == 1:
		quotient, limb := divideLimb(a, b[0])
		return quotient, trim([]uint32{limb})
	}
	// Guesses of the quotient's limbs are at most one too large only if the top bit of what divides is 1.
	shift := bits.LeadingZeros32(b[len(b)-1])
	by := shiftLeft(b, shift)
	left := make([]uint32, len(a)+1)
	copy(left, shiftLeft(a, shift))
	quotient = make([]uint32, len(a)-len(b)+1)
	for at := len(a) - len(b); at >= 0; at-- {
		window := left[at : at+len(by)+1]
		limb := guess(window, by)
		if takeTimes(window, by, limb) {
			limb--
			addAt(window, by, 0) // what is carried out undoes the borrow
		}
		quotient[at] = limb
	}
	return trim(quotient), shiftRight(trim(left), shift)
}

// divideLimb returns the quotient of a and a limb that is not 0, and the rest.
func divideLimb(a []uint32, by uint32) ([]uint32, uint32) {
	quotient := make([]uint32, len(a))
	rest := uint64(0)
	for i, limb := range slices.Backward(a) {
		rest = rest<<32 | uint64(limb)
		quotient[i] = uint32(rest / uint64(by))
		rest %= uint64(by)
	}
	return trim(quotient), uint32(rest)
}

// guess returns a limb of a quotient, or one more, by the topmost limbs of what is left and of what divides.
func guess(window, by []uint32) uint32 {
	n := len(by)
	top, below := uint64(by[n-1]), uint64(by[n-2])
	upper, lower := uint64(window[n])<<32|uint64(window[n-1]), uint64(window[n-2])
	limb, rest := upper/top, upper%top
	for rest < 1<<32 && (limb >= 1<<32 || limb*below > rest<<32|lower) {
		limb--
		rest += top
	}
	return uint32(limb)
}

// takeTimes takes a limb times by from a window, which is one limb longer, and reports whether this was too much.
func takeTimes(window, by []uint32, limb uint32) bool {
	carry, borrow := uint64(0), uint64(0)
	for i, part := range limbs(by, len(window)) {
		carry += uint64(limb) * uint64(part)
		d := uint64(window[i]) - carry&0xffffffff - borrow
		window[i] = uint32(d)
		borrow = d >> 63
		carry >>= 32
	}
	return borrow > 0
}

// power returns a to the power of n.
func power(a []uint32, n int) []uint32 {
	result := one()
	for bit := bits.Len(uint(n)) - 1; bit >= 0; bit-- {
		result = times(result, result)
		if n>>bit&1 == 1 {
			result = times(result, a)
		}
	}
	return result
}

// root returns the greatest magnitude whose n-th power is not above a.
func root(a []uint32, n int) []uint32 {
	if len(a) == 0 {
		return nil
	}
	many := (bitLen(a)-1)/n + 1
	if many == 1 {
		return one()
	}
	// The root of the upper bits of a has the upper half of the bits. One more than that is too much:
	// from there Newton's steps lead down to the root, and behind it not downward.
	half := many / 2
	near := shiftLeft(plus(root(shiftRight(a, n*half), n), one()), half)
	for {
		share, _ := divide(a, power(near, n-1))
		next, _ := divideLimb(plus(timesPlus(near, uint32(n-1), 0), share), uint32(n))
		if compare(next, near) >= 0 {
			return near
		}
		near = next
	}
}
