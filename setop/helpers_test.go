package setop_test

import (
	"cmp"
	"math/big"
	"math/rand"
	"slices"
	"strconv"
	"strings"
	"testing"

	"zermelo/api"
	"zermelo/spell"
)

var om = api.Val{}

// whole returns an integer of the library as one with limbs.
func whole(n *big.Int) api.Int {
	a := api.Int{Neg: n.Sign() < 0}
	for left := new(big.Int).Abs(n); left.Sign() > 0; left.Rsh(left, 32) {
		a.Abs = append(a.Abs, uint32(left.Uint64()))
	}
	return a
}

// twoTo returns 2 to the power of n, and d added.
func twoTo(n uint, d int64) *big.Int {
	p := new(big.Int).Lsh(big.NewInt(1), n)
	return p.Add(p, big.NewInt(d))
}

// most is the greatest Int of a value.
func most() *big.Int { return twoTo(32*api.MaxLimbs, -1) }

// minus returns the negative number.
func minus(n *big.Int) *big.Int { return new(big.Int).Neg(n) }

// The values of the kinds, as they are: only set looks at what it gets.

func boolean(holds bool) api.Val {
	if holds {
		return api.Val{Kind: api.VBool, N: 1}
	}
	return api.Val{Kind: api.VBool}
}

func large(n *big.Int) api.Val { return api.Val{Kind: api.VInt, Int: whole(n)} }

func integer(n int) api.Val { return large(big.NewInt(int64(n))) }

func decimal(n *big.Int, places int) api.Val {
	return api.Val{Kind: api.VDec, N: places, Int: whole(n)}
}

func str(s string) api.Val { return api.Val{Kind: api.VStr, Str: s} }

func atom(n int) api.Val { return api.Val{Kind: api.VAtom, N: n} }

func proc(n int) api.Val { return api.Val{Kind: api.VProc, N: n} }

// tuple returns the tuple of values, without the om at its end.
func tuple(l ...api.Val) api.Val {
	for len(l) > 0 && l[len(l)-1].Kind == api.VOm {
		l = l[:len(l)-1]
	}
	return api.Val{Kind: api.VTup, L: slices.Clone(l)}
}

// set returns the set of values that are not om, which need not be in order, and may be there twice.
func set(l ...api.Val) api.Val {
	l = slices.DeleteFunc(slices.Clone(l), func(x api.Val) bool { return x.Kind == api.VOm })
	slices.SortFunc(l, order)
	return api.Val{Kind: api.VSet, L: slices.CompactFunc(l, same)}
}

// integers are so many integers from first on.
func integers(first, many int) []api.Val {
	var l []api.Val
	for i := range many {
		l = append(l, integer(first+i))
	}
	return l
}

// nested is a value that is so deep, by tuples or by sets around 1.
func nested(deep int, around func(l ...api.Val) api.Val) api.Val {
	v := integer(1)
	for range deep - 1 {
		v = around(v)
	}
	return v
}

// v is the value of a printed form.
func v(s string) api.Val {
	x, at, e := spell.Parse(s)
	if e != api.OK {
		panic(s + ": error " + strconv.Itoa(int(e)) + " at " + strconv.Itoa(at))
	}
	return x
}

// list is the list of the elements of a printed form of a tuple, with an om behind them for each ; at its end.
func list(s string) []api.Val {
	form := strings.TrimRight(s, ";")
	l := v("[" + form + "]").L
	for range len(s) - len(form) {
		l = append(l, om)
	}
	return l
}

// whole numbers of integers, and numbers of decimals.

func number(a api.Val) *big.Int {
	n := new(big.Int)
	for _, limb := range slices.Backward(a.Int.Abs) {
		n.Lsh(n, 32)
		n.Or(n, new(big.Int).SetUint64(uint64(limb)))
	}
	if a.Int.Neg {
		n.Neg(n)
	}
	return n
}

func ten(n int) *big.Int { return new(big.Int).Exp(big.NewInt(10), big.NewInt(int64(n)), nil) }

func ratio(a api.Val) *big.Rat { return new(big.Rat).SetFrac(number(a), ten(a.N)) }

// order is the order of values, told a second time.
func order(a, b api.Val) int {
	if a.Kind != b.Kind {
		return cmp.Compare(a.Kind, b.Kind)
	}
	switch a.Kind {
	case api.VInt:
		return number(a).Cmp(number(b))
	case api.VDec:
		return ratio(a).Cmp(ratio(b))
	case api.VStr:
		return strings.Compare(a.Str, b.Str)
	case api.VTup, api.VSet:
		return cmp.Or(cmp.Compare(len(a.L), len(b.L)), slices.CompareFunc(a.L, b.L, order))
	}
	return cmp.Compare(a.N, b.N)
}

// same reports whether two values are equal, field by field.
func same(a, b api.Val) bool {
	return a.Kind == b.Kind && a.N == b.N && a.Int.Neg == b.Int.Neg && slices.Equal(a.Int.Abs, b.Int.Abs) && a.Str == b.Str && slices.EqualFunc(a.L, b.L, same)
}

// told writes a value for messages.
func told(a api.Val) string {
	s, e := spell.Text(a)
	switch {
	case e != api.OK:
		return "no value of the Kind " + strconv.Itoa(a.Kind) + " (error " + strconv.Itoa(int(e)) + ")"
	case len(s) > 90:
		return s[:80] + ".. (" + strconv.Itoa(len(s)) + ")"
	}
	return s
}

func toldAll(l []api.Val) string {
	var s []string
	for _, x := range l[:min(len(l), 12)] {
		s = append(s, told(x))
	}
	return strings.Join(s, ", ") + " (" + strconv.Itoa(len(l)) + ")"
}

// twin returns an equal value with memory of its own.
func twin(a api.Val) api.Val {
	a.Int.Abs = append([]uint32(nil), a.Int.Abs...)
	a.L = twins(a.L)
	return a
}

func twins(l []api.Val) []api.Val {
	var copies []api.Val
	for _, x := range l {
		copies = append(copies, twin(x))
	}
	return copies
}

// nodes returns the walk of a value, whose nodes share its memory.
func nodes(a api.Val) []api.Val {
	l := []api.Val{a}
	for _, x := range a.L {
		l = append(l, nodes(x)...)
	}
	return l
}

// deep returns how deep a value is nested.
func deep(a api.Val) int {
	most := 0
	for _, x := range a.L {
		most = max(most, deep(x))
	}
	return most + 1
}

var faults = []string{"none", "FtType", "FtOm", "FtRange", "FtZero", "FtLimit", "FtArity", "FtAssert", "FtState", "FtMap", "FtCase"}

// expect compares a result with the printed form, or the name of the fault, that is wanted.
func expect(t *testing.T, call string, got api.Val, fault int, want string) {
	t.Helper()
	if due := slices.Index(faults, want); due > 0 {
		expectValue(t, call, got, fault, om, due)
		return
	}
	expectValue(t, call, got, fault, v(want), 0)
}

// expectValue compares a result with the value and the fault that are wanted.
func expectValue(t *testing.T, call string, got api.Val, fault int, want api.Val, due int) {
	t.Helper()
	if fault != due || !same(got, want) {
		t.Errorf("%s is %s, fault %s; want %s, fault %s", call, told(got), faults[fault], told(want), faults[due])
	}
}

// ok ends the test if a call has a fault, and otherwise returns its result.
func ok(t *testing.T) func(api.Val, int) api.Val {
	return func(a api.Val, fault int) api.Val {
		t.Helper()
		if fault != 0 {
			t.Fatalf("fault %s", faults[fault])
		}
		return a
	}
}

// random returns a value that is at most so deep.
func random(r *rand.Rand, deep int) api.Val {
	small := []func() api.Val{
		func() api.Val { return boolean(r.Intn(2) == 0) },
		func() api.Val { return integer(r.Intn(9) - 4) },
		func() api.Val { return integer(r.Intn(5) + 1) },
		func() api.Val {
			n := new(big.Int).Rand(r, twoTo(uint(r.Intn(200)), 0))
			if r.Intn(2) == 0 {
				n.Neg(n)
			}
			return large(n)
		},
		func() api.Val { return decimal(big.NewInt(int64(r.Intn(40)-20)), 1) },
		func() api.Val { return decimal(big.NewInt(int64(10*r.Intn(400)+1+r.Intn(9))), 1+r.Intn(api.MaxScale)) },
		func() api.Val {
			return str([]string{"", "a", "b", "ab", "ba", "aab", "\n", "~ ", "abcabc"}[r.Intn(9)])
		},
		func() api.Val { return atom(1 + r.Intn(5)) },
		func() api.Val { return proc(r.Intn(5)) },
	}
	if deep == 1 || r.Intn(4) == 0 {
		return small[r.Intn(len(small))]()
	}
	var l []api.Val
	for range r.Intn(6) {
		l = append(l, random(r, deep-1))
		if r.Intn(8) == 0 {
			l = append(l, om)
		}
	}
	switch r.Intn(3) {
	case 0:
		return set(l...)
	case 1:
		return tuple(l...)
	}
	return randomMap(r, deep)
}

// randomMap returns a map of few elements, of which some have several images.
func randomMap(r *rand.Rand, deep int) api.Val {
	other := func() api.Val {
		if deep > 2 && r.Intn(4) == 0 {
			return random(r, deep-2)
		}
		return integer(r.Intn(5))
	}
	var l []api.Val
	for range r.Intn(8) {
		l = append(l, tuple(other(), other()))
	}
	return set(l...)
}

// edges are values at which something changes.
func edges() []api.Val {
	l := []api.Val{
		boolean(false), boolean(true), large(minus(most())), large(most()), large(twoTo(64, 0)), large(minus(twoTo(63, 0))), large(twoTo(63, 0)), large(minus(twoTo(63, 1))),
		integer(-9601), integer(-9600), integer(-2), integer(-1), integer(0), integer(1), integer(2), integer(3), integer(10), integer(31), integer(32), integer(126), integer(127),
		integer(api.MaxNodes), integer(api.MaxNodes + 1), integer(9600), integer(9601),
		v("0.0"), v("1.0"), v("-1.0"), v("2.0"), v("0.5"), v("-2.5"), v("0.1"), v("-1.99"), decimal(big.NewInt(1), api.MaxScale), decimal(most(), 1), decimal(minus(most()), 2), decimal(most(), api.MaxScale),
		str(""), str("a"), str("b"), str("ab"), str("abc"), str("\n"), str(strings.Repeat("x", api.MaxStr)), str(strings.Repeat("x", api.MaxStr-1)),
		atom(1), atom(7), proc(0), proc(7),
		tuple(), v("[1]"), v("[1, 2]"), v("[2, 1]"), v("[<om>, 1]"), v("[1, <om>, 3]"), v("[[1, 2], [3]]"), tuple(integers(1, api.MaxNodes-1)...), nested(api.MaxDeep, tuple), tuple(nested(api.MaxDeep-1, set)),
		set(), v("{1}"), v("{1, 2}"), v("{1, 2, 3}"), v("{[1, 2]}"), v("{[1, 2], [3, 4], [3, 5]}"), v("{[[1, 2], 3]}"), v("{[1, {1}], [{1}, 1]}"), v(`{["k", 7], [1, 7]}`), v("{[1, 2], [1, <om>, 2]}"), v("{[<om>, 1]}"),
		set(integers(1, 11)...), nested(api.MaxDeep, set), set(nested(api.MaxDeep-1, tuple)),
	}
	return l
}

// samples are edges, and values by chance.
func samples(seed int64, many int) []api.Val {
	r := rand.New(rand.NewSource(seed))
	l := edges()
	for range many {
		l = append(l, random(r, 1+r.Intn(4)))
	}
	return l
}
