package num_test

import (
	"math/big"
	"math/rand"
	"testing"

	"zermelo/api"
	"zermelo/num"
)

// of returns an integer with limbs, as they are.
func of(neg bool, limbs ...uint32) api.Int { return api.Int{Neg: neg, Abs: limbs} }

// toBig returns an integer as one of the library, against which results are held.
func toBig(a api.Int) *big.Int {
	n := new(big.Int)
	for i := len(a.Abs) - 1; i >= 0; i-- {
		n.Lsh(n, 32)
		n.Add(n, new(big.Int).SetUint64(uint64(a.Abs[i])))
	}
	if a.Neg {
		n.Neg(n)
	}
	return n
}

// fromBig returns an integer of the library as one of num.
func fromBig(n *big.Int) api.Int {
	a := api.Int{Neg: n.Sign() < 0}
	for left := new(big.Int).Abs(n); left.Sign() > 0; left.Rsh(left, 32) {
		a.Abs = append(a.Abs, uint32(left.Uint64()))
	}
	return a
}

// twoTo returns 2 to the power of n, and d added.
func twoTo(n uint, d int64) api.Int {
	p := new(big.Int).Lsh(big.NewInt(1), n)
	return fromBig(p.Add(p, big.NewInt(d)))
}

// minus returns the negative integer.
func minus(a api.Int) api.Int { return api.Int{Neg: !a.Neg && len(a.Abs) > 0, Abs: a.Abs} }

// same reports whether two integers are equal, field by field.
func same(a, b api.Int) bool {
	if a.Neg != b.Neg || len(a.Abs) != len(b.Abs) {
		return false
	}
	for i := range a.Abs {
		if a.Abs[i] != b.Abs[i] {
			return false
		}
	}
	return true
}

// zero reports whether an integer is the zero value, as it has to be together with an error.
func zero(a api.Int) bool { return !a.Neg && len(a.Abs) == 0 }

// greatest is the greatest formed integer.
func greatest() api.Int { return twoTo(32*api.MaxBig, -1) }

// malformed are integers that are not formed: each in another way.
func malformed() []api.Int {
	long := make([]uint32, api.MaxBig+1)
	long[api.MaxBig] = 1
	return []api.Int{of(true), of(false, 0), of(true, 5, 0), of(false, long...), of(false, make([]uint32, api.MaxBig+1)...)}
}

// mixed returns an integer of so many limbs, many of which are extreme ones: these lead to carries and to wrong guesses.
func mixed(r *rand.Rand, limbs int) api.Int {
	extreme := []uint32{0, 1, 2, 1<<31 - 1, 1 << 31, 1<<31 + 1, 1<<32 - 2, 1<<32 - 1}
	a := api.Int{Neg: limbs > 0 && r.Intn(2) == 1}
	for range limbs {
		limb := r.Uint32()
		if r.Intn(3) > 0 {
			limb = extreme[r.Intn(len(extreme))]
		}
		a.Abs = append(a.Abs, limb)
	}
	if limbs > 0 && a.Abs[limbs-1] == 0 {
		a.Abs[limbs-1] = 1
	}
	return a
}

// few are integers at which something changes, and some of other sizes.
func few() []api.Int {
	r := rand.New(rand.NewSource(1))
	l := []api.Int{{}, twoTo(32, -1), twoTo(32, 0), twoTo(64, -1), minus(twoTo(64, 0))}
	for _, n := range []int{1, -1, 2, -3, 12, -18} {
		l = append(l, num.Of(n))
	}
	for _, limbs := range []int{2, 3, 5, 9} {
		l = append(l, mixed(r, limbs))
	}
	return l
}

// many are the integers of few, and large ones.
func many() []api.Int {
	r := rand.New(rand.NewSource(2))
	l := append(few(), greatest(), minus(greatest()), twoTo(32*api.MaxBig-1, 0))
	for _, limbs := range []int{1, 2, 2, 3, 3, 4, 20, 79, 80, 81, 120, 150, 150, 161, 299, 300} {
		l = append(l, mixed(r, limbs))
	}
	return l
}

// expect compares a result with what the library has computed: an integer with too many limbs is to be ErrLimit.
func expect(t *testing.T, call string, got api.Int, e api.Errno, want *big.Int) {
	t.Helper()
	a := fromBig(want)
	switch {
	case len(a.Abs) > api.MaxBig:
		if e != api.ErrLimit || !zero(got) {
			t.Errorf("%s: error %d, want ErrLimit, and 0", call, e)
		}
	case e != api.OK || !same(got, a):
		t.Errorf("%s is %v, error %d; want %v", call, toBig(got), e, want)
	}
}
