package val_test

import (
	"math"
	"slices"
	"testing"

	"zermelo/api"
	"zermelo/val"
)

// P3.2
func TestMeasures(t *testing.T) {
	for _, c := range []struct {
		v           api.Val
		nodes, deep int
	}{
		{om, 1, 1}, {integer(5), 1, 1}, {str("abc"), 1, 1}, {atom(7), 1, 1}, {tuple(), 1, 1}, {set(), 1, 1}, {tuple(om, integer(1)), 3, 2}, {set(tuple()), 2, 2},
		{tuple(om, set(integer(1)), str("a")), 5, 3}, {tuple(set(set(integer(1))), integer(2)), 5, 4}, {tuple(integer(2), set(set(integer(1)))), 5, 4},
		{tuple(integers(0, api.MaxNodes-1)...), api.MaxNodes, 2}, {nested(api.MaxDeep, tuple), api.MaxDeep, api.MaxDeep}, {nested(api.MaxDeep, set), api.MaxDeep, api.MaxDeep},
	} {
		if n, deep := val.Nodes(c.v), val.Deep(c.v); n != c.nodes || deep != c.deep {
			t.Errorf("%s has %d nodes and is %d deep; want %d and %d", told(c.v), n, deep, c.nodes, c.deep)
		}
	}
	for _, v := range many(3) {
		deep := 1
		for _, x := range v.L {
			deep = max(deep, val.Deep(x)+1)
		}
		if n, d := val.Nodes(v), val.Deep(v); n != len(nodes(v)) || d != deep {
			t.Errorf("%s has %d nodes and is %d deep", told(v), n, d)
		}
	}
}

// P3.2
func TestCopyAndWalk(t *testing.T) {
	v := tuple(om, set(integer(1)), str("a"))
	if w := val.Walk(v); !slices.EqualFunc(w, []api.Val{v, om, set(integer(1)), integer(1), str("a")}, same) {
		t.Errorf("the walk is %s", told(tuple(w...)))
	}
	for _, v := range append(many(4), om, tuple(integers(0, api.MaxNodes-1)...), nested(api.MaxDeep, set)) {
		if w := val.Walk(v); !slices.EqualFunc(w, nodes(v), same) {
			t.Errorf("the walk of %s is %s", told(v), told(tuple(w...)))
		}
		if c := val.Copy(v); !same(c, v) {
			t.Errorf("the copy of %s is %s", told(v), told(c))
		}
	}
}

// P3.3
func TestCompare(t *testing.T) {
	for _, c := range [][2]api.Val{{om, boolean(0)}, {integer(2), places(15, 1)}, {tuple(integer(9)), pair(1, 1)}, {set(integer(3)), set(integer(1), integer(2))}, {integer(1), places(10, 1)}} {
		if got := val.Compare(c[0], c[1]); got != -1 {
			t.Errorf("Compare of %s and %s is %d", told(c[0]), told(c[1]), got)
		}
	}
	l := ascending()
	for i, a := range l {
		for j, b := range l {
			want := 0
			switch {
			case i < j:
				want = -1
			case i > j:
				want = 1
			}
			if got := val.Compare(a, twin(b)); got != want {
				t.Errorf("Compare of %s and %s is %d, want %d", told(a), told(b), got, want)
			}
			for _, around := range []func(l ...api.Val) api.Val{tuple, set} {
				if got := val.Compare(around(a, integer(1)), around(b, integer(1))); got != want {
					t.Errorf("Compare of %s and %s within a value is %d, want %d", told(a), told(b), got, want)
				}
			}
		}
	}
}

// mixed is what a word makes of a hash.
func mixed(a uint32, words ...uint32) uint32 {
	for _, b := range words {
		a = (a*32 + a/(1<<27)) ^ b
		a *= 2654435769
	}
	return a
}

// words are those that the hash of a value is made of, told a second time.
func words(v api.Val) []uint32 {
	l := []uint32{uint32(v.Kind)}
	switch v.Kind {
	case api.VBool, api.VAtom, api.VProc:
		l = append(l, uint32(v.N))
	case api.VInt, api.VDec:
		l = append(l, map[bool]uint32{true: 1}[v.Int.Neg])
		l = append(l, v.Int.Abs...)
		if v.Kind == api.VDec {
			l = append(l, uint32(v.N))
		}
	case api.VStr:
		for _, b := range []byte(v.Str) {
			l = append(l, uint32(b))
		}
		l = append(l, uint32(len(v.Str)))
	case api.VTup:
		for _, x := range v.L {
			l = append(l, hashed(x))
		}
		l = append(l, uint32(len(v.L)))
	case api.VSet:
		sum := uint32(0)
		for _, x := range v.L {
			sum += share(x)
		}
		l = append(l, sum, uint32(len(v.L)))
	}
	return l
}

// hashed is the hash of a value, told a second time.
func hashed(v api.Val) uint32 { return mixed(2166136261, words(v)...) }

// share is the share of an element, told a second time.
func share(v api.Val) uint32 {
	h := mixed(1540483477, hashed(v))
	return h ^ h>>16
}

// P3.4
func TestHash(t *testing.T) {
	// Numbers that were computed beside this program.
	for _, c := range []struct {
		v    api.Val
		want uint32
	}{
		{om, 3587942192},
		{boolean(1), 3544010231},
		{integer(0), 909710770},
		{integer(1), 1266567247},
		{large(minus(twoTo(32, 0))), 2095648023},
		{places(15, 1), 2270377203},
		{str("ab"), 2743908808},
		{str(""), 1633113601},
		{atom(3), 3350284366},
		{proc(0), 715984905},
		{tuple(om, integer(1)), 387370164},
		{tuple(), 736121213},
		{set(integer(1), str("ab")), 3807603385},
		{set(), 2818552890},
		{set(set(integer(1), str("ab"))), 1250668938},
	} {
		if h := val.Hash(c.v); h != c.want {
			t.Errorf("the hash of %s is %d, want %d", told(c.v), h, c.want)
		}
	}
	for _, v := range append(many(5), om, atom(1<<40+7), proc(math.MaxInt), set(integers(-3, 500)...), nested(api.MaxDeep, set)) {
		if h := val.Hash(v); h != hashed(v) {
			t.Errorf("the hash of %s is %d, want %d", told(v), h, hashed(v))
		}
		if h := val.Share(v); h != share(v) {
			t.Errorf("the share of %s is %d, want %d", told(v), h, share(v))
		}
	}
	for _, sum := range []uint32{0, 1, 1 << 31, 12345, math.MaxUint32} {
		for _, n := range []int{0, 1, 2, 300, 1<<32 + 5} {
			if h := val.Total(sum, n); h != mixed(2166136261, 8, sum, uint32(n)) {
				t.Errorf("the total of %d and %d is %d", sum, n, h)
			}
		}
	}
}

// P3.5
func TestTuple(t *testing.T) {
	one := integer(1)
	for _, c := range [][2][]api.Val{
		{nil, nil}, {{}, nil}, {{om}, nil}, {{om, om, om}, nil}, {{one}, {one}}, {{om, one, om, om}, {om, one}}, {{one, one}, {one, one}}, {{one, om, integer(2), om}, {one, om, integer(2)}},
		{{tuple(), om}, {tuple()}}, {{set(), set()}, {set(), set()}},
	} {
		got, e := val.Tuple(c[0])
		expect(t, "Tuple of "+told(tuple(c[0]...)), got, e, tuple(c[1]...))
	}
	for _, l := range [][]api.Val{values(), many(6)} {
		got, e := val.Tuple(append(slices.Clone(l), om))
		expect(t, "Tuple", got, e, tuple(l...))
	}
}

// P3.5
func TestSet(t *testing.T) {
	one, two := integer(1), integer(2)
	for _, c := range [][2][]api.Val{
		{nil, nil}, {{}, nil}, {{om}, nil}, {{om, om}, nil}, {{one}, {one}}, {{integer(3), om, one, integer(3)}, {one, integer(3)}}, {{one, one, one}, {one}}, {{two, one}, {one, two}},
		{{places(10, 1), one}, {one, places(10, 1)}}, {{set(), tuple(), om, set()}, {tuple(), set()}}, {{pair(2, 1), pair(1, 2), pair(2, 1)}, {pair(1, 2), pair(2, 1)}},
	} {
		got, e := val.Set(c[0])
		expect(t, "Set of "+told(tuple(c[0]...)), got, e, set(c[1]...))
	}
	l := ascending()
	slices.Reverse(l)
	got, e := val.Set(append(l, l...))
	expect(t, "Set of all, twice", got, e, set(values()...))
}

// P3.5: limits of tuples and sets.
func TestMakeLimits(t *testing.T) {
	most, oms := api.MaxNodes-1, make([]api.Val, api.MaxNodes+5)
	wide := func(n int) api.Val { return tuple(integers(0, n-1)...) } // of n nodes
	for _, c := range []struct {
		name     string
		l        []api.Val
		tup, set api.Errno
	}{
		{"the most elements", integers(0, most), api.OK, api.OK},
		{"one more", integers(0, most+1), api.ErrLimit, api.ErrLimit},
		{"far more", integers(0, 10*most), api.ErrLimit, api.ErrLimit},
		{"the most, and om", append(integers(0, most), oms...), api.OK, api.OK},
		{"om, and the last one", append(slices.Clone(oms[:most-1]), integer(1)), api.OK, api.OK},
		{"om, and one too far", append(slices.Clone(oms[:most]), integer(1)), api.ErrLimit, api.OK},
		{"the same, often", slices.Repeat(integers(7, 1), 10*api.MaxNodes), api.ErrLimit, api.OK},
		{"the most elements, twice", append(integers(0, most), integers(0, most)...), api.ErrLimit, api.OK},
		{"one large element", []api.Val{wide(most)}, api.OK, api.OK},
		{"a larger one", []api.Val{wide(most + 1)}, api.ErrLimit, api.ErrLimit},
		{"two large elements", []api.Val{wide(most / 2), wide(most - most/2)}, api.OK, api.OK},
		{"two larger ones", []api.Val{wide(most / 2), wide(most - most/2 + 1)}, api.ErrLimit, api.ErrLimit},
		{"a large one, twice", []api.Val{wide(most), wide(most)}, api.ErrLimit, api.OK},
		{"a deep element", []api.Val{integer(1), nested(api.MaxDeep-1, tuple)}, api.OK, api.OK},
		{"a deeper one", []api.Val{integer(1), nested(api.MaxDeep, tuple)}, api.ErrLimit, api.ErrLimit},
		{"a deep set", []api.Val{integer(1), nested(api.MaxDeep-1, set)}, api.OK, api.OK},
		{"a deeper set", []api.Val{nested(api.MaxDeep, set), integer(1)}, api.ErrLimit, api.ErrLimit},
	} {
		for _, f := range []struct {
			name string
			do   func([]api.Val) (api.Val, api.Errno)
			want api.Errno
		}{{"Tuple", val.Tuple, c.tup}, {"Set", val.Set, c.set}} {
			got, e := f.do(c.l)
			if f.want != api.OK {
				refused(t, f.name+" of "+c.name, got, e, f.want)
			} else if e != api.OK || val.Check(got) != api.OK || val.Nodes(got) > api.MaxNodes {
				t.Errorf("%s of %s is %s, error %d", f.name, c.name, told(got), e)
			}
		}
	}
}

// P3.6
func TestFind(t *testing.T) {
	s := set(integer(1), integer(3))
	for x, want := range []int{0, 0, 1, 1, 2} {
		if at, is := val.Find(s, integer(x)); at != want || is != (x%2 == 1) {
			t.Errorf("Find of %d is %d, %v", x, at, is)
		}
	}
	for i, x := range values() {
		if at, is := val.Find(set(), x); at != 0 || is {
			t.Errorf("%s in the empty set: %d, %v", told(x), at, is)
		}
		if at, is := val.Find(set(values()...), x); at != i || !is {
			t.Errorf("%s among all: %d, %v; want %d", told(x), at, is, i)
		}
		if at, is := val.Find(set(slices.Delete(values(), i, i+1)...), x); at != i || is {
			t.Errorf("%s among the others: %d, %v; want %d", told(x), at, is, i)
		}
		for _, s := range append(values(), om) {
			if at, is := val.Find(s, x); s.Kind != api.VSet && (at != 0 || is) {
				t.Errorf("%s in %s: %d, %v", told(x), told(s), at, is)
			}
		}
	}
	if at, is := val.Find(tuple(integer(1)), integer(1)); at != 0 || is {
		t.Errorf("Find in a tuple: %d, %v", at, is)
	}
}

// joins are the functions of two sets.
func joins() map[string]func(a, b api.Val) (api.Val, api.Errno) {
	return map[string]func(a, b api.Val) (api.Val, api.Errno){
		"Union": val.Union, "Common": val.Common, "Minus": val.Minus,
		"Within": func(a, b api.Val) (api.Val, api.Errno) {
			is, e := val.Within(a, b)
			if is {
				return boolean(1), e
			}
			return om, e
		},
	}
}

// P3.7
func TestSets(t *testing.T) {
	s := func(l ...int) api.Val {
		var elements []api.Val
		for _, n := range l {
			elements = append(elements, integer(n))
		}
		return set(elements...)
	}
	for _, c := range []struct{ a, b, union, common, minus api.Val }{
		{s(1), s(2), s(1, 2), s(), s(1)}, {s(1, 2), s(2, 3), s(1, 2, 3), s(2), s(1)}, {s(1, 2), s(2), s(1, 2), s(2), s(1)}, {s(), s(), s(), s(), s()}, {s(), s(1), s(1), s(), s()}, {s(1), s(), s(1), s(), s(1)},
		{s(1, 2, 3), s(1, 2, 3), s(1, 2, 3), s(1, 2, 3), s()}, {s(1, 3, 5), s(2, 4, 6), s(1, 2, 3, 4, 5, 6), s(), s(1, 3, 5)}, {s(5, 6), s(1, 2), s(1, 2, 5, 6), s(), s(5, 6)}, {s(1, 5), s(2, 3, 5, 9), s(1, 2, 3, 5, 9), s(5), s(1)},
	} {
		got, e := val.Union(c.a, c.b)
		expect(t, "Union", got, e, c.union)
		got, e = val.Common(c.a, c.b)
		expect(t, "Common", got, e, c.common)
		got, e = val.Minus(c.a, c.b)
		expect(t, "Minus", got, e, c.minus)
		if is, e := val.Within(c.a, c.b); e != api.OK || is != (len(c.minus.L) == 0) {
			t.Errorf("%s within %s: %v, error %d", told(c.a), told(c.b), is, e)
		}
	}
	all := values()
	for i, x := range all {
		others := set(slices.Delete(values(), i, i+1)...)
		for _, from := range []api.Val{set(all...), others} {
			got, e := val.With(from, x)
			expect(t, "With "+told(x), got, e, set(all...))
			got, e = val.Less(from, x)
			expect(t, "Less "+told(x), got, e, others)
		}
		got, e := val.With(set(), x)
		expect(t, "With "+told(x), got, e, set(x))
		got, e = val.Less(set(), x)
		expect(t, "Less "+told(x), got, e, set())
	}
}

// P3.7: what is no set.
func TestNoSets(t *testing.T) {
	good := set(integer(1), integer(2))
	deep := nested(api.MaxDeep, tuple)
	for _, bad := range append(ascending(), tuple(integer(1)), tuple(pair(1, 2)), str("{}")) {
		if bad.Kind == api.VSet {
			continue
		}
		for name, do := range joins() {
			for _, c := range [][2]api.Val{{bad, good}, {good, bad}, {bad, bad}, {bad, set()}, {set(), bad}} {
				got, e := do(c[0], c[1])
				refused(t, name+" of "+told(c[0])+" and "+told(c[1]), got, e, api.ErrType)
			}
		}
		for _, x := range []api.Val{integer(1), set(), deep} {
			got, e := val.With(bad, x)
			refused(t, "With in "+told(bad), got, e, api.ErrType)
			got, e = val.Less(bad, x)
			refused(t, "Less in "+told(bad), got, e, api.ErrType)
		}
	}
}

// P3.7: limits of With and Union; the others have none.
func TestSetLimits(t *testing.T) {
	full := set(integers(0, api.MaxNodes-1)...)
	less := set(full.L[:api.MaxNodes-2]...)
	deep, deeper := nested(api.MaxDeep-1, tuple), nested(api.MaxDeep, tuple)
	got, e := val.With(less, full.L[api.MaxNodes-2])
	expect(t, "With the last one", got, e, full)
	got, e = val.With(full, integer(5))
	expect(t, "With one that is there", got, e, full)
	got, e = val.With(full, integer(-1))
	refused(t, "With one too many", got, e, api.ErrLimit)
	got, e = val.With(less, set(integer(1)))
	refused(t, "With an element of two nodes", got, e, api.ErrLimit)
	got, e = val.With(set(), full)
	refused(t, "With a full set", got, e, api.ErrLimit)
	got, e = val.With(set(), less)
	expect(t, "With a set of one node less", got, e, set(less))
	got, e = val.With(set(integer(1)), deep)
	expect(t, "With a deep one", got, e, set(integer(1), deep))
	got, e = val.With(set(integer(1)), deeper)
	refused(t, "With a deeper one", got, e, api.ErrLimit)
	got, e = val.Less(set(integer(1)), deeper)
	expect(t, "Less a deep one", got, e, set(integer(1)))
	got, e = val.Less(full, integer(0))
	expect(t, "Less in a full set", got, e, set(full.L[1:]...))

	low, high := set(integers(0, 2000)...), set(integers(999, 2000)...)
	got, e = val.Union(low, high)
	expect(t, "Union up to the limit", got, e, full)
	got, e = val.Union(low, set(integers(1000, 2000)...))
	refused(t, "Union beyond the limit", got, e, api.ErrLimit)
	got, e = val.Union(full, set(integers(4000, 2999)...))
	refused(t, "Union of full sets", got, e, api.ErrLimit)
	got, e = val.Union(full, full)
	expect(t, "Union of a full set and itself", got, e, full)
	got, e = val.Common(full, high)
	expect(t, "Common of large sets", got, e, high)
	got, e = val.Minus(full, high)
	expect(t, "Minus of large sets", got, e, set(integers(0, 999)...))
	if is, e := val.Within(high, full); e != api.OK || !is {
		t.Errorf("Within of large sets: %v, error %d", is, e)
	}
}

// P3.8
func TestPairsAndMaps(t *testing.T) {
	one := integer(1)
	for _, c := range []struct {
		v         api.Val
		pair, set bool
	}{
		{om, false, false}, {pair(1, 2), true, false}, {pair(1, 1), true, false}, {tuple(tuple(), set()), true, false}, {tuple(om, one), false, false}, {tuple(one), false, false}, {tuple(), false, false},
		{tuple(one, one, one), false, false}, {tuple(om, one, one), false, false}, {tuple(pair(1, 2), pair(3, 4)), true, false}, {tuple(pair(1, 2)), false, false},
		{set(), false, true}, {set(pair(1, 2)), false, true}, {set(pair(1, 2), pair(1, 3), pair(2, 5)), false, true}, {set(one), false, false}, {set(one, integer(2)), false, false},
		{set(tuple(om, one)), false, false}, {set(tuple(om, one), pair(1, 2)), false, false}, {set(pair(1, 2), tuple(one, one, one)), false, false}, {set(one, pair(1, 2)), false, false}, {set(tuple(one), pair(1, 2)), false, false},
		{set(pair(1, 2), set()), false, false}, {set(set(one, integer(2))), false, false}, {str("ab"), false, false}, {one, false, false}, {boolean(1), false, false}, {atom(2), false, false}, {proc(2), false, false}, {places(20, 1), false, false},
	} {
		if got := val.IsPair(c.v); got != c.pair {
			t.Errorf("IsPair of %s is %v", told(c.v), got)
		}
		if got := val.IsMap(c.v); got != c.set {
			t.Errorf("IsMap of %s is %v", told(c.v), got)
		}
	}
}

// P3.9
func TestMaps(t *testing.T) {
	one, two, three, five := integer(1), integer(2), integer(3), integer(5)
	f := set(pair(1, 2), pair(1, 3), pair(2, 5))
	for _, c := range []struct{ x, image, apply api.Val }{
		{one, set(two, three), om}, {two, set(five), five}, {integer(7), set(), om}, {integer(0), set(), om}, {places(10, 1), set(), om}, {set(), set(), om}, {pair(1, 2), set(), om},
	} {
		got, e := val.Image(f, c.x)
		expect(t, "Image at "+told(c.x), got, e, c.image)
		got, e = val.Apply(f, c.x)
		expect(t, "Apply at "+told(c.x), got, e, c.apply)
	}
	domain, values, e := val.Sides(f)
	expect(t, "the domain", domain, e, set(one, two))
	expect(t, "the range", values, e, set(two, three, five))
	got, e := val.Inverse(f)
	expect(t, "Inverse", got, e, set(pair(2, 1), pair(3, 1), pair(5, 2)))

	// Pairs in the order of their first elements are not in that of their second ones.
	f = set(pair(1, 9), pair(2, 3), pair(2, 4), pair(3, 1), pair(4, 3))
	domain, values, e = val.Sides(f)
	expect(t, "the domain", domain, e, set(integers(1, 4)...))
	expect(t, "the range", values, e, set(one, three, integer(4), integer(9)))
	got, e = val.Inverse(f)
	expect(t, "Inverse", got, e, set(pair(1, 3), pair(3, 2), pair(3, 4), pair(4, 2), pair(9, 1)))

	domain, values, e = val.Sides(set())
	expect(t, "the domain of the empty map", domain, e, set())
	expect(t, "the range of the empty map", values, e, set())
	got, e = val.Inverse(set())
	expect(t, "Inverse of the empty map", got, e, set())
	got, e = val.Image(set(), one)
	expect(t, "Image of the empty map", got, e, set())
	got, e = val.Apply(set(), one)
	expect(t, "Apply of the empty map", got, e, om)
}

// P3.9: as many nodes as there can be, and as deep.
func TestLargeMaps(t *testing.T) {
	var up, down []api.Val
	many := (api.MaxNodes - 1) / 3
	for i := range many {
		up = append(up, pair(i, many-i))
		down = append(down, pair(i+1, many-1-i))
	}
	got, e := val.Inverse(set(up...))
	expect(t, "Inverse", got, e, set(down...))
	deep := nested(api.MaxDeep-2, set)
	f := set(tuple(integer(1), deep))
	got, e = val.Inverse(f)
	expect(t, "Inverse", got, e, set(tuple(deep, integer(1))))
	got, e = val.Image(f, integer(1))
	expect(t, "Image", got, e, set(deep))
	got, e = val.Apply(f, integer(1))
	expect(t, "Apply", got, e, deep)
	got, e = val.Apply(set(tuple(deep, integer(1))), deep)
	expect(t, "Apply", got, e, integer(1))
	var fan []api.Val
	for i := range many {
		fan = append(fan, pair(1, i))
	}
	got, e = val.Image(set(fan...), integer(1))
	expect(t, "Image", got, e, set(integers(0, many)...))
}

// P3.9: what is no map.
func TestNoMaps(t *testing.T) {
	one := integer(1)
	for _, f := range append(ascending(), set(one), set(one, pair(1, 2)), set(pair(1, 2), tuple(one, one, one)), set(tuple(om, one)), set(pair(1, 2), set()), tuple(pair(1, 2)), pair(1, 2)) {
		if val.IsMap(f) {
			continue
		}
		for _, x := range []api.Val{one, pair(1, 2), set()} {
			got, e := val.Image(f, x)
			refused(t, "Image of "+told(f), got, e, api.ErrType)
			got, e = val.Apply(f, x)
			refused(t, "Apply of "+told(f), got, e, api.ErrType)
		}
		got, e := val.Inverse(f)
		refused(t, "Inverse of "+told(f), got, e, api.ErrType)
		domain, values, e := val.Sides(f)
		refused(t, "the domain of "+told(f), domain, e, api.ErrType)
		refused(t, "the range of "+told(f), values, e, api.ErrType)
	}
}

// P3.10
func TestRenamed(t *testing.T) {
	for _, c := range []struct {
		v            api.Val
		atoms, procs []int
		want         api.Val
	}{
		{set(atom(1), atom(2)), []int{2, 1}, nil, set(atom(1), atom(2))},
		{set(atom(1), atom(2)), []int{5, 5}, nil, set(atom(5))},
		{tuple(atom(1), atom(2), atom(3), proc(0)), []int{2, 1}, []int{4}, tuple(atom(2), atom(1), atom(3), proc(4))},
		{atom(1), []int{7}, []int{8}, atom(7)}, {atom(2), []int{7}, []int{8}, atom(2)}, {proc(0), []int{7}, []int{8}, proc(8)}, {proc(1), []int{7}, []int{8}, proc(1)}, {proc(1), []int{7}, []int{8, 0}, proc(0)},
		{atom(math.MaxInt), []int{7}, nil, atom(math.MaxInt)}, {proc(math.MaxInt), nil, []int{7}, proc(math.MaxInt)}, {atom(1), []int{math.MaxInt}, nil, atom(math.MaxInt)}, {proc(0), nil, []int{math.MaxInt}, proc(math.MaxInt)},
		{tuple(atom(1), proc(1), atom(3)), nil, nil, tuple(atom(1), proc(1), atom(3))},
		{om, []int{2}, []int{2}, om}, {integer(1), []int{2}, []int{2, 2}, integer(1)}, {boolean(1), []int{2}, []int{2, 2}, boolean(1)}, {places(15, 1), []int{2}, []int{2, 2}, places(15, 1)},
		{tuple(om, atom(1)), []int{2}, nil, tuple(om, atom(2))},
		// Each number is replaced once.
		{tuple(atom(1), atom(2), atom(3)), []int{2, 3, 1}, nil, tuple(atom(2), atom(3), atom(1))},
		// The order of sets changes, and what becomes equal counts once, within sets too.
		{set(atom(1), atom(2), atom(3)), []int{9, 8, 7}, nil, set(atom(7), atom(8), atom(9))},
		{set(atom(1), atom(2), atom(9)), []int{9}, nil, set(atom(2), atom(9))},
		{set(atom(3), proc(0), proc(1)), []int{1}, []int{5, 4}, set(atom(3), proc(4), proc(5))},
		{set(tuple(atom(1)), tuple(atom(2)), set(atom(1)), set(atom(2))), []int{2, 2}, nil, set(tuple(atom(2)), set(atom(2)))},
		{set(set(atom(1), atom(2)), set(atom(1), atom(3))), []int{1, 3}, nil, set(set(atom(1), atom(3)))},
		// A set that loses elements may come ahead of others.
		{set(set(atom(3), atom(4)), set(integer(0), atom(1), atom(2))), []int{1, 1}, nil, set(set(integer(0), atom(1)), set(atom(3), atom(4)))},
	} {
		got, e := val.Renamed(c.v, c.atoms, c.procs)
		expect(t, "Renamed of "+told(c.v), got, e, c.want)
	}
	for _, v := range append(many(7), om) {
		for _, c := range []struct{ atoms, procs []int }{{[]int{0}, nil}, {[]int{-1}, nil}, {[]int{1, 2, 0, 4}, []int{1}}, {nil, []int{-1}}, {[]int{1}, []int{0, 1, math.MinInt}}, {[]int{math.MinInt}, []int{-1}}} {
			got, e := val.Renamed(v, c.atoms, c.procs)
			refused(t, "Renamed of "+told(v), got, e, api.ErrArg)
		}
	}
}
