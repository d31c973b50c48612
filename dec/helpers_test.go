package dec_test

import (
	"math/big"
	"math/rand"
	"slices"
	"strconv"
	"testing"

	"zermelo/api"
	"zermelo/dec"
	"zermelo/num"
)

// toBig returns an integer as one of the library, against which results are held.
func toBig(a api.Int) *big.Int {
	s, _ := num.Text(a, 36)
	n, _ := new(big.Int).SetString(s, 36)
	return n
}

// fromBig returns an integer of the library as one of num: 0, if it has too many limbs.
func fromBig(n *big.Int) api.Int {
	a, _ := num.Parse(n.Text(36), 36)
	return a
}

// tenTo returns 10 to the power of n.
func tenTo(n int) *big.Int { return new(big.Int).Exp(big.NewInt(10), big.NewInt(int64(n)), nil) }

// twoTo returns 2 to the power of n, and d added.
func twoTo(n int, d int64) *big.Int {
	p := new(big.Int).Lsh(big.NewInt(1), uint(n))
	return p.Add(p, big.NewInt(d))
}

// ratOf returns the number of a decimal.
func ratOf(a api.Val) *big.Rat { return new(big.Rat).SetFrac(toBig(a.Int), tenTo(a.N)) }

// nearest returns the integer that is nearest to n / d, the even one of two.
func nearest(n, d *big.Int) *big.Int {
	// What lies below n / d + 1/2 is it, or one more than it where that is an integer.
	n, d = new(big.Int).Mul(n, big.NewInt(int64(2*d.Sign()))), new(big.Int).Abs(d)
	n.Add(n, d)
	q, rest := new(big.Int).DivMod(n, new(big.Int).Lsh(d, 1), new(big.Int))
	if rest.Sign() == 0 && q.Bit(0) == 1 {
		q.Sub(q, big.NewInt(1))
	}
	return q
}

// decimal returns the decimal of n times 10 to the power of -places, and false if it is too large.
func decimal(n *big.Int, places int) (api.Val, bool) {
	n = new(big.Int).Mul(n, big.NewInt(10))
	for places++; places > 1; places-- {
		q, digit := new(big.Int).QuoRem(n, big.NewInt(10), new(big.Int))
		if digit.Sign() != 0 {
			break
		}
		n = q
	}
	if n.BitLen() > 32*api.MaxLimbs {
		return api.Val{}, false
	}
	return api.Val{Kind: api.VDec, N: places, Int: fromBig(n)}, true
}

// rounded returns the decimal of what n / d is rounded to with so many places, and false if it is too large.
func rounded(n, d *big.Int, places int) (api.Val, bool) {
	return decimal(nearest(new(big.Int).Mul(n, tenTo(places)), d), places)
}

// roundedRat is rounded for a number of the library.
func roundedRat(r *big.Rat, places int) (api.Val, bool) { return rounded(r.Num(), r.Denom(), places) }

// sameInt reports whether two integers are equal, field by field.
func sameInt(a, b api.Int) bool { return a.Neg == b.Neg && slices.Equal(a.Abs, b.Abs) }

// same reports whether two values without elements are equal, field by field.
func same(a, b api.Val) bool {
	return a.Kind == b.Kind && a.N == b.N && sameInt(a.Int, b.Int) && a.Str == b.Str && len(a.L)+len(b.L) == 0
}

// short writes an integer for messages: the first digits of a long one, and how many there are.
func short(n *big.Int) string {
	s := n.String()
	if len(s) > 60 {
		s = s[:50] + ".. (" + strconv.Itoa(len(s)) + ")"
	}
	return s
}

// told writes a value for messages.
func told(a api.Val) string { return short(toBig(a.Int)) + " with " + strconv.Itoa(a.N) + " places" }

// expect compares a result with the one that is wanted: if there is none, it is to be ErrLimit.
func expect(t *testing.T, call string, got api.Val, e api.Errno, want api.Val, fits bool) {
	t.Helper()
	wanted := api.OK
	if !fits {
		wanted = api.ErrLimit
	}
	if e != wanted || !same(got, want) {
		t.Errorf("%s is %s, error %d; want %s, error %d", call, told(got), e, told(want), wanted)
	}
}

// refused tells if a call has another error than the one that is wanted, or a result beside it.
func refused(t *testing.T, call string, got api.Val, e, want api.Errno) {
	t.Helper()
	if e != want || !same(got, api.Val{}) {
		t.Errorf("%s is %s, error %d; want error %d alone", call, told(got), e, want)
	}
}

// must returns a result, and ends the test if there is an error instead.
func must[T any](t *testing.T) func(T, api.Errno) T {
	return func(result T, e api.Errno) T {
		t.Helper()
		if e != api.OK {
			t.Fatalf("error %d", e)
		}
		return result
	}
}

// of returns the decimal with a text.
func of(t *testing.T, s string) api.Val {
	t.Helper()
	return must[api.Val](t)(dec.Parse(s))
}

// raw returns a value with the Kind of decimals, as it is.
func raw(n *big.Int, places int) api.Val {
	return api.Val{Kind: api.VDec, N: places, Int: fromBig(n)}
}

// most is the greatest Int of a decimal.
func most() *big.Int { return twoTo(32*api.MaxLimbs, -1) }

// few are decimals at which something changes, with either sign.
func few(t *testing.T) []api.Val {
	l := []api.Val{of(t, "0.0")}
	for _, s := range []string{
		"0.5", "1.0", "1.5", "2.0", "2.5", "3.0", "9.9", "10.0", "0.1", "0.25", "0.75", "7.125", "1000.0", "123456789.987654321",
		"0.00000000000000000001", "0.00000000000000000005", "0.0000000001", "0.00000000005", "0.0000000003", "0.50000000000000000001",
		"0.49999999999999999999", "0.99999999999999999999", "99999999999999999999.99999999999999999999", "4294967296.0", "18446744073709551616.5",
	} {
		l = append(l, of(t, s), of(t, "-"+s))
	}
	return l
}

// many are the decimals of few, large ones, and some by chance.
func many(t *testing.T) []api.Val {
	l := few(t)
	// The sum of most and of this is 3 times 10 to the power of 385: with 20 places, it is a decimal only because its zeros go.
	other := new(big.Int).Mul(big.NewInt(3), tenTo(385))
	for _, n := range []*big.Int{most(), twoTo(32*api.MaxLimbs-1, 1), twoTo(16*api.MaxLimbs, 3), other.Sub(other, most())} {
		minus := new(big.Int).Neg(n)
		l = append(l, raw(n, 1), raw(minus, 1), raw(n, api.MaxScale), raw(minus, api.MaxScale))
	}
	r := rand.New(rand.NewSource(8))
	for range 40 {
		l = append(l, random(r, 1+r.Intn(200)))
	}
	for range 10 {
		l = append(l, random(r, 32*api.MaxLimbs-60))
	}
	return l
}

// random returns a decimal with about so many bits, often one with few places.
func random(r *rand.Rand, bits int) api.Val {
	n := new(big.Int).Rand(r, twoTo(bits, 0))
	if r.Intn(2) == 0 {
		n.Neg(n)
	}
	a, _ := decimal(n, r.Intn(api.MaxScale+1))
	return a
}

// badInts are integers that are not formed: each in another way.
func badInts() []api.Int {
	long := make([]uint32, api.MaxBig+1)
	long[api.MaxBig] = 1
	return []api.Int{{Neg: true}, {Abs: []uint32{0}}, {Neg: true, Abs: []uint32{5, 0}}, {Abs: long}}
}

// notDecimals are values that are no decimals: each in another way.
func notDecimals() []api.Val {
	five := num.Of(5)
	l := []api.Val{
		{}, {Kind: api.VDec}, {Kind: api.VInt, Int: five}, {Kind: api.VStr, N: 1, Int: five}, {Kind: -1, N: 1, Int: five}, {Kind: 9, N: 1, Int: five},
		{Kind: api.VDec, N: 0, Int: five}, {Kind: api.VDec, N: -1, Int: five}, {Kind: api.VDec, N: api.MaxScale + 1, Int: five},
		{Kind: api.VDec, N: 2}, {Kind: api.VDec, N: api.MaxScale}, raw(big.NewInt(20), 2), raw(big.NewInt(-300), 3), raw(tenTo(30), api.MaxScale),
		{Kind: api.VDec, N: 1, Int: five, Str: "5"}, {Kind: api.VDec, N: 1, Int: five, L: []api.Val{{}}},
		raw(twoTo(32*api.MaxLimbs, 0), 1), raw(twoTo(32*api.MaxLimbs, 1), 3), raw(twoTo(32*api.MaxBig, -1), 5),
	}
	for _, n := range badInts() {
		l = append(l, api.Val{Kind: api.VDec, N: 1, Int: n}, api.Val{Kind: api.VDec, N: 3, Int: n})
	}
	return l
}
