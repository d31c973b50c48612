package num

import (
	"iter"
	"slices"

	"zermelo/api"
	"zermelo/guard"
)

// digits are the digits of all bases.
var digits = [36]byte{
	'0', '1', '2', '3', '4', '5', '6', '7', '8', '9',
	'a', 'b', 'c', 'd', 'e', 'f', 'g', 'h', 'i', 'j', 'k', 'l', 'm',
	'n', 'o', 'p', 'q', 'r', 's', 't', 'u', 'v', 'w', 'x', 'y', 'z',
}

// chunk returns how many digits to a base a limb holds, whatever they are, and the base to the power of that.
func chunk(base int) (many int, unit uint32) {
	many, unit = 1, uint32(base)
	for uint64(unit)*uint64(base) < 1<<32 {
		many, unit = many+1, unit*uint32(base)
	}
	return many, unit
}

// text returns the digits of an integer to a base.
func text(a api.Int, base int) string {
	many, unit := chunk(base)
	var s []byte // the last digit first
	for left := a.Abs; len(left) > 0; {
		quotient, limb := divideLimb(left, unit)
		for range many {
			s = append(s, digits[limb%uint32(base)])
			limb /= uint32(base)
		}
		left = quotient
	}
	for len(s) > 0 && s[len(s)-1] == '0' {
		s = s[:len(s)-1]
	}
	switch {
	case len(s) == 0:
		s = append(s, '0')
	case a.Neg:
		s = append(s, '-')
	}
	slices.Reverse(s)
	return string(s)
}

// parse returns the integer with a text to a base.
func parse(s string, base int) api.Int {
	neg := len(s) > 0 && s[0] == '-'
	if neg {
		s = s[1:]
	}
	guard.Demand(len(s) > 0, api.ErrForm)
	for i := range len(s) {
		guard.Demand(digitOf(s[i]) < base, api.ErrForm)
	}
	for len(s) > 0 && s[0] == '0' {
		s = s[1:]
	}
	var abs []uint32
	for unit, value := range chunks(s, base) {
		abs = timesPlus(abs, unit, value)
		// What comes behind does not make it smaller: a text far too long is not read to its end.
		guard.Demand(len(abs) <= api.MaxBig, api.ErrLimit)
	}
	return signed(neg, abs)
}

// chunks gives, for the digits of s piece by piece, the base to the power of their number, and their value.
func chunks(s string, base int) iter.Seq2[uint32, uint32] {
	return func(yield func(uint32, uint32) bool) {
		many, _ := chunk(base)
		for len(s) > 0 {
			unit, value := uint64(1), uint64(0)
			for i := range min(many, len(s)) {
				unit *= uint64(base)
				value = value*uint64(base) + uint64(digitOf(s[i]))
			}
			s = s[min(many, len(s)):]
			if !yield(uint32(unit), uint32(value)) {
				return
			}
		}
	}
}

// digitOf returns the value of a digit, and 36 for every other byte.
func digitOf(c byte) int {
	switch {
	case c >= '0' && c <= '9':
		return int(c - '0')
	case c >= 'a' && c <= 'z':
		return int(c-'a') + 10
	case c >= 'A' && c <= 'Z':
		return int(c-'A') + 10
	default:
		return len(digits)
	}
}
