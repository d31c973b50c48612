package setop_test

import (
	"math/big"
	"strconv"
	"strings"
	"testing"

	"zermelo/api"
	"zermelo/setop"
	"zermelo/val"
)

// bytes is a string of so many bytes.
func bytes(many int) api.Val { return str(strings.Repeat("x", many)) }

// row is a tuple of so many integers.
func row(many int) api.Val { return tuple(integers(1, many)...) }

// some is a set of so many integers.
func some(many int) api.Val { return set(integers(1, many)...) }

// squares is a map of so many integers.
func squares(many int) api.Val {
	var l []api.Val
	for i := range many {
		l = append(l, tuple(integer(i), integer(i*i)))
	}
	return set(l...)
}

// limited tells if a call has not the last result within a limit, or has one beyond it.
func limited(t *testing.T, call string, got api.Val, fault int, fits bool) {
	t.Helper()
	switch {
	case fits && fault != 0:
		t.Errorf("%s has the fault %s", call, faults[fault])
	case fits && val.Check(got) != api.OK:
		t.Errorf("%s is %s", call, told(got))
	case !fits && (fault != api.FtLimit || !same(got, om)):
		t.Errorf("%s is %s, fault %s; want FtLimit", call, told(got), faults[fault])
	}
}

// The integers of results have at most MaxLimbs limbs.
func TestLimbs(t *testing.T) {
	largest, least := large(most()), large(minus(most()))
	digits := large(new(big.Int).Quo(most(), big.NewInt(10)))
	more := large(new(big.Int).Add(number(digits), big.NewInt(1)))
	for _, c := range []struct {
		op   int
		a, b api.Val
		fits bool
	}{
		{api.BiAdd, largest, integer(0), true}, {api.BiAdd, largest, integer(1), false}, {api.BiAdd, least, integer(-1), false}, {api.BiAdd, largest, least, true}, {api.BiSub, largest, integer(-1), false}, {api.BiSub, least, integer(1), false}, {api.BiSub, least, integer(-1), true}, {api.BiSub, largest, largest, true},
		{api.BiMul, largest, integer(-1), true}, {api.BiMul, largest, integer(2), false}, {api.BiMul, largest, largest, false}, {api.BiMul, large(twoTo(640, 0)), large(twoTo(639, 0)), true}, {api.BiMul, large(twoTo(640, 0)), large(twoTo(640, 0)), false}, {api.BiMul, largest, integer(0), true},
		{api.BiPow, integer(2), integer(1279), true}, {api.BiPow, integer(2), integer(1280), false}, {api.BiPow, integer(-2), integer(1279), true}, {api.BiPow, integer(2), integer(9600), false}, {api.BiPow, largest, integer(1), true}, {api.BiPow, largest, integer(2), false}, {api.BiPow, largest, integer(9600), false}, {api.BiPow, integer(-1), integer(9600), true}, {api.BiPow, integer(0), integer(9600), true},
		{api.BiQuo, least, integer(-1), true}, {api.BiQuo, least, integer(2), true}, {api.BiMod, least, largest, true}, {api.BiMod, integer(1), least, true},
		{api.BiAdd, decimal(most(), 1), v("0.1"), false}, {api.BiAdd, decimal(most(), 1), v("0.5"), false}, {api.BiAdd, decimal(most(), 1), v("0.01"), false}, {api.BiSub, decimal(most(), 1), v("0.1"), true}, {api.BiSub, decimal(minus(most()), 1), v("0.1"), false}, {api.BiMul, decimal(most(), 1), v("10.0"), false}, {api.BiMul, decimal(most(), 1), v("1.0"), true}, {api.BiMul, decimal(most(), 2), v("10.0"), true},
		{api.BiDiv, decimal(most(), 1), v("0.1"), false}, {api.BiDiv, decimal(most(), 2), v("0.1"), true}, {api.BiDiv, decimal(most(), 1), v("10.0"), true}, {api.BiPow, v("2.0"), integer(1275), true}, {api.BiPow, v("2.0"), integer(1279), false}, {api.BiPow, v("0.5"), integer(-1279), false}, {api.BiPow, v("10.0"), integer(1000), false}, {api.BiPow, v("0.5"), integer(2800), true}, {api.BiPow, v("0.5"), integer(2801), false},
	} {
		got, fault := setop.Bin(c.op, c.a, c.b)
		limited(t, "Bin "+strconv.Itoa(c.op)+" of "+told(c.a)+" and "+told(c.b), got, fault, c.fits)
	}
	for _, c := range []struct {
		op   int
		a    api.Val
		fits bool
	}{
		{api.UnNeg, largest, true}, {api.UnNeg, least, true}, {api.UnAbs, least, true}, {api.UnDec, largest, false}, {api.UnDec, least, false}, {api.UnDec, digits, true}, {api.UnDec, more, false}, {api.UnFix, decimal(most(), 1), true}, {api.UnNeg, decimal(most(), 1), true},
	} {
		got, fault := setop.Un(c.op, c.a, 0)
		limited(t, "Un "+strconv.Itoa(c.op)+" of "+told(c.a), got, fault, c.fits)
	}
	ends := []api.Val{large(twoTo(1280, -3)), largest}
	got, fault := setop.Range(api.VTup, ends)
	expectValue(t, "Range at the end", got, fault, tuple(ends[0], large(twoTo(1280, -2)), largest), 0)
	got, fault = setop.Range(api.VSet, []api.Val{least, largest, least})
	expectValue(t, "Range with a large step", got, fault, set(least), 0)
	got, fault = setop.Range(api.VTup, []api.Val{least, largest, largest})
	expectValue(t, "Range with a large step", got, fault, tuple(least, largest), 0)
	got, fault = setop.Range(api.VTup, []api.Val{largest, least})
	expectValue(t, "Range of none", got, fault, tuple(), 0)
	got, fault = setop.Range(api.VTup, []api.Val{least, largest})
	limited(t, "Range of all", got, fault, false)
}

// The strings of results have at most MaxStr bytes.
func TestBytes(t *testing.T) {
	for _, c := range []struct {
		op   int
		a, b api.Val
		fits bool
	}{
		{api.BiAdd, bytes(400), bytes(600), true}, {api.BiAdd, bytes(400), bytes(601), false}, {api.BiAdd, bytes(1000), bytes(0), true}, {api.BiAdd, bytes(1000), bytes(1000), false},
		{api.BiMul, bytes(500), integer(2), true}, {api.BiMul, bytes(501), integer(2), false}, {api.BiMul, integer(1000), bytes(1), true}, {api.BiMul, integer(1001), bytes(1), false}, {api.BiMul, bytes(3), integer(333), true}, {api.BiMul, bytes(3), integer(334), false}, {api.BiMul, bytes(1000), integer(1), true}, {api.BiMul, large(twoTo(62, 0)), bytes(4), false}, {api.BiMul, large(most()), bytes(1), false}, {api.BiMul, bytes(0), large(most()), true},
	} {
		got, fault := setop.Bin(c.op, c.a, c.b)
		limited(t, "Bin "+strconv.Itoa(c.op)+" of "+told(c.a)+" and "+told(c.b), got, fault, c.fits)
	}
	for many, fits := range map[int]bool{996: true, 997: false} {
		got, fault := setop.Un(api.UnStr, tuple(bytes(many)), 0)
		limited(t, "the printed form of "+strconv.Itoa(many)+" bytes", got, fault, fits)
	}
	got, fault := setop.Un(api.UnStr, bytes(1000), 0)
	limited(t, "the printed form of a string", got, fault, true)
	got, fault = setop.Un(api.UnStr, row(2999), 0)
	limited(t, "the printed form of a tuple", got, fault, false)
	for many, fits := range map[int]bool{1000: true, 999: true, 1001: false} {
		got, fault := setop.PutSlice(bytes(700), []api.Val{integer(301), integer(400)}, bytes(min(many-600, 1000)))
		limited(t, "PutSlice that makes "+strconv.Itoa(many), got, fault, fits)
	}
}

// Results have at most MaxNodes nodes.
func TestNodes(t *testing.T) {
	pair := v("[1, 2]")
	for _, c := range []struct {
		op   int
		a, b api.Val
		fits bool
	}{
		{api.BiAdd, row(2000), row(999), true}, {api.BiAdd, row(2000), row(1000), false}, {api.BiAdd, some(2999), some(2000), true}, {api.BiAdd, some(2999), set(integer(0)), false}, {api.BiMul, tuple(integer(1)), integer(2999), true}, {api.BiMul, integer(3000), tuple(integer(1)), false}, {api.BiMul, pair, integer(1499), true}, {api.BiMul, pair, integer(1500), false}, {api.BiMul, tuple(pair), integer(999), true}, {api.BiMul, tuple(pair), integer(1000), false}, {api.BiMul, row(2999), integer(1), true}, {api.BiMul, row(2999), integer(2), false}, {api.BiMul, large(twoTo(62, 0)), pair, false}, {api.BiMul, row(7), large(most()), false},
		{api.BiMod, some(2999), set(integer(0)), false}, {api.BiMod, some(2999), set(integer(0), integer(7)), true}, {api.BiMod, some(2999), some(2999), true}, {api.BiWith, row(2998), integer(1), true}, {api.BiWith, row(2999), integer(1), false}, {api.BiWith, row(2997), tuple(integer(1)), true}, {api.BiWith, row(2998), tuple(integer(1)), false}, {api.BiWith, some(2999), integer(1), true}, {api.BiWith, some(2999), integer(0), false}, {api.BiWith, some(2998), integer(0), true},
		{api.BiNpow, some(1499), integer(1), true}, {api.BiNpow, some(1500), integer(1), false}, {api.BiNpow, some(2998), integer(2998), true}, {api.BiNpow, some(2999), integer(2999), false}, {api.BiNpow, some(2999), integer(0), true}, {api.BiNpow, some(2999), integer(3000), true}, {api.BiNpow, some(2999), integer(2998), false}, {api.BiNpow, some(2999), integer(1500), false}, {api.BiNpow, some(45), integer(2), true}, {api.BiNpow, some(46), integer(2), false}, {api.BiNpow, some(54), integer(53), true}, {api.BiNpow, some(55), integer(54), false}, {api.BiNpow, some(100), integer(50), false},
	} {
		got, fault := setop.Bin(c.op, c.a, c.b)
		limited(t, "Bin "+strconv.Itoa(c.op)+" of "+told(c.a)+" and "+told(c.b), got, fault, c.fits)
	}
	for many, fits := range map[int]bool{9: true, 10: false, 12: false, 100: false, 2999: false} {
		got, fault := setop.Un(api.UnPow, some(many), 0)
		limited(t, "all subsets of "+strconv.Itoa(many), got, fault, fits)
		if fits && len(got.L) != 1<<many {
			t.Errorf("%d subsets of %d", len(got.L), many)
		}
	}
	for many, fits := range map[int]bool{2999: true, 3000: false, 3500: false} {
		call := " of " + strconv.Itoa(many)
		got, fault := setop.Tup(integers(1, many))
		limited(t, "Tup"+call, got, fault, fits)
		got, fault = setop.Set(integers(1, many))
		limited(t, "Set"+call, got, fault, fits)
		got, fault = setop.Range(api.VTup, []api.Val{integer(1), integer(many)})
		limited(t, "Range"+call, got, fault, fits)
		got, fault = setop.Range(api.VSet, []api.Val{integer(2 * many), integer(2*many - 2), integer(1)})
		limited(t, "Range downward"+call, got, fault, fits)
		if many <= api.MaxNodes {
			got, fault = setop.Put(row(5), []api.Val{integer(many)}, str("x"))
			limited(t, "Put"+call, got, fault, fits)
		}
	}
	l := append(integers(1, 2999), make([]api.Val, 500)...)
	got, fault := setop.Tup(l)
	limited(t, "Tup with om at its end", got, fault, true)
	got, fault = setop.Set(append(l, l...))
	limited(t, "Set of equal values", got, fault, true)
	got, fault = setop.Put(row(2998), []api.Val{integer(2998)}, pair)
	limited(t, "Put of a pair", got, fault, false)
	got, fault = setop.Put(row(2997), []api.Val{integer(2997)}, pair)
	limited(t, "Put of a pair", got, fault, true)
	got, fault = setop.PutSlice(row(2999), []api.Val{integer(5), integer(6)}, row(2))
	limited(t, "PutSlice", got, fault, true)
	got, fault = setop.PutSlice(row(2999), []api.Val{integer(5), integer(6)}, row(3))
	limited(t, "PutSlice", got, fault, false)
	for many, fits := range map[int]bool{998: true, 999: false} {
		got, fault = setop.Put(squares(many), []api.Val{str("x")}, integer(1))
		limited(t, "Put into a map", got, fault, fits)
		got, fault = setop.PutImg(squares(many-5), []api.Val{str("x")}, some(6))
		limited(t, "PutImg", got, fault, fits)
		got, fault = setop.Put(squares(many), []api.Val{integer(7)}, integer(1))
		limited(t, "Put into a map for what it has", got, fault, true)
	}
}

// Results are at most MaxDeep deep.
func TestDepth(t *testing.T) {
	for levels := 17; levels <= api.MaxDeep; levels++ {
		sets, tuples := nested(levels, set), nested(levels, tuple)
		call := strconv.Itoa(levels) + " deep: "
		one := levels < api.MaxDeep
		check := func(what string, fits bool) func(api.Val, int) {
			return func(got api.Val, fault int) {
				t.Helper()
				limited(t, call+what, got, fault, fits)
			}
		}
		check("Tup", one)(setop.Tup([]api.Val{sets}))
		check("Set", one)(setop.Set([]api.Val{tuples}))
		check("with", one)(setop.Bin(api.BiWith, tuple(), sets))
		check("with", one)(setop.Bin(api.BiWith, set(), tuples))
		check("UnPow", one)(setop.Un(api.UnPow, sets, 0))
		check("Npow", one)(setop.Bin(api.BiNpow, sets, integer(1)))
		check("Npow of 0", true)(setop.Bin(api.BiNpow, sets, integer(0)))
		check("Npow of 2", true)(setop.Bin(api.BiNpow, sets, integer(2)))
		check("Put", one)(setop.Put(tuple(), []api.Val{integer(2)}, sets))
		check("Put of a map", levels < api.MaxDeep-1)(setop.Put(om, []api.Val{str("x")}, sets))
		check("Put of a map", levels < api.MaxDeep-1)(setop.Put(set(), []api.Val{tuples}, integer(1)))
		check("Put of a map", levels < api.MaxDeep-2)(setop.Put(set(), []api.Val{tuples, integer(1)}, integer(1)))
		check("PutImg", levels < api.MaxDeep)(setop.PutImg(set(), []api.Val{integer(1)}, set(nested(levels-1, tuple))))
		check("PutImg of none", true)(setop.PutImg(set(), []api.Val{sets}, set()))
		check("UnTup", true)(setop.Un(api.UnTup, sets, 0))
		check("UnElt", true)(setop.Un(api.UnElt, tuples, 0))
		check("UnStr", true)(setop.Un(api.UnStr, sets, 0))
		check("repeated", true)(setop.Bin(api.BiMul, tuples, integer(3)))
	}
}

// P5.5 to P5.8: a list that is no value has nothing in a map, and cannot be put into one.
func TestLargeKeys(t *testing.T) {
	many, deepest := integers(1, api.MaxNodes), []api.Val{nested(api.MaxDeep, tuple), integer(1)}
	for _, l := range [][]api.Val{many, deepest} {
		for _, f := range []api.Val{set(), v(graph)} {
			got, fault := setop.Sel(f, l)
			expectValue(t, "Sel of a list that is no value", got, fault, om, 0)
			got, fault = setop.Img(f, l)
			expectValue(t, "Img of it", got, fault, set(), 0)
			got, fault = setop.Put(f, l, om)
			expectValue(t, "Put of om", got, fault, f, 0)
			got, fault = setop.Put(f, l, integer(1))
			limited(t, "Put", got, fault, false)
			got, fault = setop.PutImg(f, l, set())
			expectValue(t, "PutImg of none", got, fault, f, 0)
			got, fault = setop.PutImg(f, l, set(integer(1)))
			limited(t, "PutImg", got, fault, false)
		}
		got, fault := setop.Put(set(integer(1)), l, integer(1))
		expectValue(t, "Put into no map", got, fault, om, api.FtMap)
		got, fault = setop.Put(om, l, om)
		expectValue(t, "Put of om into om", got, fault, set(), 0)
		got, fault = setop.Put(v(graph), append(l, om), integer(1))
		expectValue(t, "Put with om behind", got, fault, om, api.FtOm)
	}
}

// P5.10 and P5.11: what an iterator has left are values, too.
func TestLargePairs(t *testing.T) {
	for many, fits := range map[int]bool{2997: true, 2998: false} {
		it, fault := setop.Begin(api.ItMap, tuple(row(many)))
		if fits != (fault == 0) || !fits && (fault != api.FtLimit || it.Any || len(it.Left) != 0) {
			t.Errorf("Begin over a tuple of one of %d elements: %d are left, fault %s", many, len(it.Left), faults[fault])
		}
		it, fault = setop.Begin(api.ItElem, tuple(row(many)))
		if fault != 0 || len(it.Left) != 1 || !same(it.Left[0], row(many)) {
			t.Errorf("Begin over elements: %d are left, fault %s", len(it.Left), faults[fault])
		}
	}
}
