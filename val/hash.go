package val

import (
	"math/bits"

	"zermelo/api"
)

const (
	hashSeed  = 2166136261
	shareSeed = 1540483477
	factor    = 2654435769
)

// mix takes a word into a hash.
func mix(a, b uint32) uint32 { return (bits.RotateLeft32(a, 5) ^ b) * factor }

// begun returns what the hash of a value of a Kind begins with.
func begun(kind int) uint32 { return mix(hashSeed, uint32(kind)) }

// hashInt takes an integer into a hash.
func hashInt(h uint32, n api.Int) uint32 {
	sign := uint32(0)
	if n.Neg {
		sign = 1
	}
	h = mix(h, sign)
	for _, limb := range n.Abs {
		h = mix(h, limb)
	}
	return h
}

// hashBytes takes a string into a hash.
func hashBytes(h uint32, s string) uint32 {
	for i := range len(s) {
		h = mix(h, uint32(s[i]))
	}
	return mix(h, uint32(len(s)))
}

// hashTuple takes the elements of a tuple into a hash.
func hashTuple(h uint32, l []api.Val) uint32 {
	for _, x := range l {
		h = mix(h, Hash(x))
	}
	return mix(h, uint32(len(l)))
}

// sumOfShares returns the sum of what elements add to the sum of a set.
func sumOfShares(l []api.Val) uint32 {
	sum := uint32(0)
	for _, x := range l {
		sum += Share(x)
	}
	return sum
}
