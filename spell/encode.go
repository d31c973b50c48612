package spell

import (
	"iter"

	"zermelo/api"
)

// What gives bytes reports whether more of them are wanted.

// encoded gives the bytes of the binary form of a value.
func encoded(v api.Val) iter.Seq[byte] {
	return func(yield func(byte) bool) { give(v, yield) }
}

// encodedAll gives the number of values, and their binary forms.
func encodedAll(l []api.Val) iter.Seq[byte] {
	return func(yield func(byte) bool) { giveList(api.Val{L: l}, yield) }
}

// give gives the binary form of a value.
func give(v api.Val, yield func(byte) bool) bool {
	return yield(byte(v.Kind)) && kinds()[v.Kind].give(v, yield)
}

func giveNothing(api.Val, func(byte) bool) bool { return true }

func giveByte(v api.Val, yield func(byte) bool) bool { return yield(byte(v.N)) }

func giveNumber(v api.Val, yield func(byte) bool) bool { return giveGroups(v.N, yield) }

func giveInt(v api.Val, yield func(byte) bool) bool {
	sign := byte(0)
	if v.Int.Neg {
		sign = 1
	}
	return yield(sign) && giveBytes(bytesOf(v.Int.Abs), yield)
}

func giveDec(v api.Val, yield func(byte) bool) bool {
	return giveByte(v, yield) && giveInt(v, yield)
}

func giveStr(v api.Val, yield func(byte) bool) bool { return giveBytes(v.Str, yield) }

func giveList(v api.Val, yield func(byte) bool) bool {
	if !giveGroups(len(v.L), yield) {
		return false
	}
	for _, x := range v.L {
		if !give(x, yield) {
			return false
		}
	}
	return true
}

// giveBytes gives the number of bytes, and these.
func giveBytes(s string, yield func(byte) bool) bool {
	if !giveGroups(len(s), yield) {
		return false
	}
	for i := range len(s) {
		if !yield(s[i]) {
			return false
		}
	}
	return true
}

// giveGroups gives a number, at least 0, in groups of seven bits.
func giveGroups(n int, yield func(byte) bool) bool {
	for n >= 128 {
		if !yield(byte(n%128 + 128)) {
			return false
		}
		n /= 128
	}
	return yield(byte(n))
}

// bytesOf returns the bytes of a magnitude, the lowest one first, the last one not 0.
func bytesOf(limbs []uint32) string {
	var b []byte
	for _, limb := range limbs {
		b = append(b, byte(limb), byte(limb>>8), byte(limb>>16), byte(limb>>24))
	}
	for len(b) > 0 && b[len(b)-1] == 0 {
		b = b[:len(b)-1]
	}
	return string(b)
}
