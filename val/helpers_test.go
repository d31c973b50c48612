package val_test

import (
	"cmp"
	"math"
	"math/big"
	"math/rand"
	"slices"
	"strconv"
	"strings"
	"testing"

	"zermelo/api"
)

var om = api.Val{}

// whole returns an integer of the library as one with limbs.
func whole(n *big.Int) api.Int {
	a := api.Int{Neg: n.Sign() < 0}
	for left := new(big.Int).Abs(n); left.Sign() > 0; left.Rsh(left, 32) {
		a.Abs = append(a.Abs, uint32(left.Uint64()))
	}
	return a
}

// twoTo returns 2 to the power of n, and d added.
func twoTo(n uint, d int64) *big.Int {
	p := new(big.Int).Lsh(big.NewInt(1), n)
	return p.Add(p, big.NewInt(d))
}

// most is the greatest Int of a value.
func most() *big.Int { return twoTo(32*api.MaxLimbs, -1) }

// minus returns the negative number.
func minus(n *big.Int) *big.Int { return new(big.Int).Neg(n) }

// The values of the kinds, as they are: none of these functions looks at what it gets.

func boolean(n int) api.Val { return api.Val{Kind: api.VBool, N: n} }

func large(n *big.Int) api.Val { return api.Val{Kind: api.VInt, Int: whole(n)} }

func integer(n int) api.Val { return large(big.NewInt(int64(n))) }

func decimal(n *big.Int, places int) api.Val {
	return api.Val{Kind: api.VDec, N: places, Int: whole(n)}
}

// places is the decimal of a small number with so many places.
func places(n, places int) api.Val { return decimal(big.NewInt(int64(n)), places) }

func str(s string) api.Val { return api.Val{Kind: api.VStr, Str: s} }

func atom(n int) api.Val { return api.Val{Kind: api.VAtom, N: n} }

func proc(n int) api.Val { return api.Val{Kind: api.VProc, N: n} }

func tuple(l ...api.Val) api.Val { return api.Val{Kind: api.VTup, L: l} }

func set(l ...api.Val) api.Val { return api.Val{Kind: api.VSet, L: l} }

func pair(x, y int) api.Val { return tuple(integer(x), integer(y)) }

// integers are so many integers from first on.
func integers(first, many int) []api.Val {
	var l []api.Val
	for i := range many {
		l = append(l, integer(first+i))
	}
	return l
}

// nested is a value that is so deep, by tuples or by sets around 1.
func nested(deep int, around func(l ...api.Val) api.Val) api.Val {
	v := integer(1)
	for range deep - 1 {
		v = around(v)
	}
	return v
}

// ascending are values at which something changes, and om, in their order.
func ascending() []api.Val {
	return []api.Val{
		om, boolean(0), boolean(1),
		large(minus(most())), large(minus(twoTo(64, 0))), large(minus(twoTo(32, 1))), large(minus(twoTo(32, 0))), integer(-7), integer(-1),
		integer(0), integer(1), integer(2), integer(9), integer(10), large(twoTo(32, -1)), large(twoTo(32, 0)), large(twoTo(33, 0)), large(twoTo(64, 0)), large(most()),
		decimal(minus(most()), 1), decimal(minus(most()), 2), places(-30, 1), places(-15, 1), places(-12, 2), places(-1, api.MaxScale),
		places(0, 1), places(1, api.MaxScale), places(1, 2), places(1, 1), places(25, 2), places(3, 1), places(10, 1), places(15, 1), places(151, 2), places(20, 1), places(100, 1), decimal(most(), 2), decimal(most(), 1),
		str(""), str("\n"), str(" "), str("10"), str("9"), str("B"), str("a"), str("a\n"), str("a "), str("aa"), str("ab"), str("b"), str("~"),
		atom(1), atom(2), atom(10), atom(math.MaxInt),
		proc(0), proc(1), proc(2), proc(10), proc(math.MaxInt),
		tuple(), tuple(boolean(0)), tuple(integer(9)), tuple(places(15, 1)), tuple(str("zz")), tuple(tuple()), tuple(set(integer(1))),
		tuple(om, integer(1)), tuple(om, integer(2)), tuple(boolean(1), boolean(0)), pair(1, 1), pair(1, 2), pair(1, 3), pair(2, 1), tuple(set(), integer(0)),
		tuple(om, om, integer(1)), tuple(om, integer(1), integer(1)), tuple(integer(1), om, integer(1)),
		set(), set(integer(3)), set(str("a")), set(tuple()), set(set()), set(set(set())),
		set(integer(1), integer(2)), set(integer(1), integer(3)), set(integer(2), integer(3)), set(integer(9), places(90, 1)), set(pair(1, 2), pair(1, 3)), set(integers(1, 3)...),
	}
}

// values are those of ascending without om.
func values() []api.Val { return ascending()[1:] }

// number returns the number of an integer or a decimal.
func number(v api.Val) *big.Rat {
	n := new(big.Int)
	for _, limb := range slices.Backward(v.Int.Abs) {
		n.Lsh(n, 32)
		n.Or(n, new(big.Int).SetUint64(uint64(limb)))
	}
	if v.Int.Neg {
		n.Neg(n)
	}
	ten := new(big.Int).Exp(big.NewInt(10), big.NewInt(int64(max(v.N, 0))), nil)
	return new(big.Rat).SetFrac(n, ten)
}

// order is the order of values, told a second time.
func order(a, b api.Val) int {
	if a.Kind != b.Kind {
		return cmp.Compare(a.Kind, b.Kind)
	}
	switch a.Kind {
	case api.VInt, api.VDec:
		return number(a).Cmp(number(b))
	case api.VStr:
		return strings.Compare(a.Str, b.Str)
	case api.VTup, api.VSet:
		return cmp.Or(cmp.Compare(len(a.L), len(b.L)), slices.CompareFunc(a.L, b.L, order))
	}
	return cmp.Compare(a.N, b.N)
}

// same reports whether two values are equal, field by field.
func same(a, b api.Val) bool {
	return a.Kind == b.Kind && a.N == b.N && a.Int.Neg == b.Int.Neg && slices.Equal(a.Int.Abs, b.Int.Abs) && a.Str == b.Str && slices.EqualFunc(a.L, b.L, same)
}

// told writes a value for messages.
func told(v api.Val) string {
	switch v.Kind {
	case api.VOm:
		return "om"
	case api.VInt, api.VDec:
		return short(number(v).FloatString(max(v.N, 0)))
	case api.VStr:
		return short(strconv.Quote(v.Str))
	case api.VTup, api.VSet:
		var l []string
		for _, x := range v.L[:min(len(v.L), 12)] {
			l = append(l, told(x))
		}
		return string("[{"[v.Kind-api.VTup]) + strings.Join(l, ", ") + string("]}"[v.Kind-api.VTup]) + " of " + strconv.Itoa(len(v.L))
	}
	return strconv.Itoa(v.Kind) + ":" + strconv.Itoa(v.N)
}

// short returns a text, or where it begins.
func short(s string) string {
	if len(s) > 60 {
		return s[:50] + ".. (" + strconv.Itoa(len(s)) + ")"
	}
	return s
}

// sorted returns the set of values, which need not be in order, and may be there twice.
func sorted(l ...api.Val) api.Val {
	l = slices.Clone(l)
	slices.SortFunc(l, order)
	return set(slices.CompactFunc(l, same)...)
}

// twin returns an equal value with memory of its own.
func twin(v api.Val) api.Val {
	v.Int.Abs = append([]uint32(nil), v.Int.Abs...)
	var l []api.Val
	for _, x := range v.L {
		l = append(l, twin(x))
	}
	v.L = l
	return v
}

// twins returns twin for each value of a list.
func twins(l []api.Val) []api.Val { return twin(tuple(l...)).L }

// random returns a value that is at most so deep.
func random(r *rand.Rand, deep int) api.Val {
	small := []func() api.Val{
		func() api.Val { return boolean(r.Intn(2)) },
		func() api.Val { return integer(r.Intn(9) - 4) },
		func() api.Val { return large(new(big.Int).Rand(r, twoTo(uint(r.Intn(200)), 0))) },
		func() api.Val { return places(r.Intn(40)-20, 1) },
		func() api.Val { return places(10*r.Intn(400)+1+r.Intn(9), 1+r.Intn(api.MaxScale)) },
		func() api.Val { return str([]string{"", "a", "b", "ab", "\n"}[r.Intn(5)]) },
		func() api.Val { return atom(1 + r.Intn(6)) },
		func() api.Val { return proc(r.Intn(6)) },
	}
	if deep == 1 || r.Intn(3) == 0 {
		return small[r.Intn(len(small))]()
	}
	var l []api.Val
	for range r.Intn(5) {
		l = append(l, random(r, deep-1))
	}
	if r.Intn(2) == 0 {
		return sorted(l...)
	}
	if len(l) > 0 && r.Intn(3) == 0 {
		l[r.Intn(len(l))] = om
		l = append(l, random(r, deep-1))
	}
	return tuple(l...)
}

// many are the values of ascending, and some by chance.
func many(seed int64) []api.Val {
	r := rand.New(rand.NewSource(seed))
	l := values()
	for range 150 {
		l = append(l, random(r, 1+r.Intn(5)))
	}
	return l
}

// nodes returns the walk of a value, whose nodes share its memory.
func nodes(v api.Val) []api.Val {
	l := []api.Val{v}
	for _, x := range v.L {
		l = append(l, nodes(x)...)
	}
	return l
}

// expect compares a result with the one that is wanted.
func expect(t *testing.T, call string, got api.Val, e api.Errno, want api.Val) {
	t.Helper()
	if e != api.OK || !same(got, want) {
		t.Errorf("%s is %s, error %d; want %s", call, told(got), e, told(want))
	}
}

// refused tells if a call has another error than the one that is wanted, or a result beside it.
func refused(t *testing.T, call string, got api.Val, e, want api.Errno) {
	t.Helper()
	if e != want || !same(got, om) {
		t.Errorf("%s is %s, error %d; want error %d alone", call, told(got), e, want)
	}
}

// must returns a function that returns a result, and ends the test if there is an error instead.
func must(t *testing.T) func(api.Val, api.Errno) api.Val {
	return func(v api.Val, e api.Errno) api.Val {
		t.Helper()
		if e != api.OK {
			t.Fatalf("error %d", e)
		}
		return v
	}
}
