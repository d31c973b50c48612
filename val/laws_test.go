package val_test

import (
	"math/rand"
	"slices"
	"testing"

	"zermelo/api"
	"zermelo/val"
)

// P3.11: a list that is sorted by Compare shows that it is antisymmetric and transitive, if it says so of any two.
func TestTotalOrder(t *testing.T) {
	l := append(many(8), om)
	slices.SortFunc(l, val.Compare)
	for i, a := range l {
		for j, b := range l {
			c := val.Compare(a, b)
			if c < -1 || c > 1 || c != -val.Compare(b, a) || i < j && c > 0 || i > j && c < 0 {
				t.Errorf("Compare of %s and %s is %d, at %d and %d of a sorted list", told(a), told(b), c, i, j)
			}
			if (c == 0) != same(a, b) || c != order(a, b) {
				t.Errorf("Compare of %s and %s is %d", told(a), told(b), c)
			}
		}
	}
	for _, v := range l {
		if v.Kind != api.VSet {
			continue
		}
		for i, x := range v.L[min(1, len(v.L)):] {
			if val.Compare(v.L[i], x) != -1 {
				t.Errorf("the elements of %s do not increase", told(v))
			}
		}
	}
}

// results are all values that functions return for two values and a list; functions of sets and maps get those of l.
func results(a, b api.Val, l []api.Val) []api.Val {
	var all []api.Val
	add := func(v api.Val, _ api.Errno) { all = append(all, v) }
	all = append(all, val.Copy(a), val.Copy(b))
	all = append(all, val.Walk(a)...)
	add(val.Tuple(l))
	add(val.Tuple([]api.Val{a, om, b, b, om}))
	add(val.Set(l))
	add(val.Set([]api.Val{a, om, b, a}))
	for _, s := range []api.Val{a, sorted(l...)} {
		add(val.With(s, b))
		add(val.Less(s, b))
		for _, do := range []func(a, b api.Val) (api.Val, api.Errno){val.Union, val.Common, val.Minus} {
			add(do(s, b))
			add(do(b, s))
			add(do(s, s))
		}
	}
	for _, f := range []api.Val{a, set(tuple(a, b)), sorted(tuple(a, b), tuple(b, a), tuple(a, a)), sorted(pairsOf(l)...)} {
		add(val.Image(f, a))
		add(val.Apply(f, a))
		add(val.Inverse(f))
		domain, values, _ := val.Sides(f)
		all = append(all, domain, values)
	}
	add(val.Renamed(a, []int{2, 1, 5, 5}, []int{3, 3, 0}))
	add(val.Renamed(tuple(b, sorted(l...)), []int{4}, nil))
	return all
}

// pairsOf are pairs of neighbours in a list.
func pairsOf(l []api.Val) []api.Val {
	var pairs []api.Val
	for i := range max(0, len(l)-1) {
		pairs = append(pairs, tuple(l[i], l[i+1]))
	}
	return pairs
}

// P3.12
func TestClosed(t *testing.T) {
	r := rand.New(rand.NewSource(9))
	l := many(9)
	for range 1500 {
		a, b := l[r.Intn(len(l))], l[r.Intn(len(l))]
		var some []api.Val
		for range r.Intn(6) {
			some = append(some, l[r.Intn(len(l))])
		}
		for _, v := range results(a, b, some) {
			checks(t, v, api.OK)
		}
	}
	full := integers(0, api.MaxNodes-1)
	for _, v := range append(l, om, tuple(full...), set(full...), nested(api.MaxDeep, set), nested(api.MaxDeep, tuple)) {
		w := val.Walk(v)
		if val.Nodes(v) != len(w) {
			t.Errorf("%s has %d nodes, and %d in its walk", told(v), val.Nodes(v), len(w))
		}
		for _, x := range w {
			checks(t, x, api.OK)
		}
	}
}

// chosen are those values of a list of which the bits of a number are 1.
func chosen(l []api.Val, which uint64) api.Val {
	var some []api.Val
	for i, x := range l {
		if which>>i&1 == 1 {
			some = append(some, x)
		}
	}
	return set(some...)
}

// P3.13: sets of values of an increasing list are the same as sets of bits.
func TestSetLaws(t *testing.T) {
	ok := must(t)
	all := values()[len(values())-40:]
	r := rand.New(rand.NewSource(10))
	for range 400 {
		x, y := r.Uint64()&r.Uint64()&(1<<40-1), r.Uint64()&(1<<40-1)
		if r.Intn(3) == 0 {
			y |= x
		}
		if r.Intn(10) == 0 {
			y = x
		}
		a, b := chosen(all, x), chosen(all, y)
		expect(t, "Union", ok(val.Union(a, b)), api.OK, chosen(all, x|y))
		expect(t, "Common", ok(val.Common(a, b)), api.OK, chosen(all, x&y))
		expect(t, "Minus", ok(val.Minus(a, b)), api.OK, chosen(all, x&^y))
		is, e := val.Within(a, b)
		if e != api.OK || is != (x&^y == 0) || is != same(ok(val.Union(a, b)), b) || is != (len(ok(val.Minus(a, b)).L) == 0) {
			t.Errorf("Within of %s and %s is %v", told(a), told(b), is)
		}
		for i, v := range all {
			expect(t, "With", ok(val.With(a, v)), api.OK, chosen(all, x|1<<i))
			expect(t, "Less", ok(val.Less(a, v)), api.OK, chosen(all, x&^(1<<i)))
			if _, is := val.Find(a, v); is != (x>>i&1 == 1) {
				t.Errorf("Find of %s is %v", told(v), is)
			}
		}
		l := append(append(slices.Clone(a.L), om, om), a.L...)
		r.Shuffle(len(l), func(i, j int) { l[i], l[j] = l[j], l[i] })
		expect(t, "Set in any order", ok(val.Set(l)), api.OK, a)
	}
}

// randomMap is a map of small numbers, and of some other values.
func randomMap(r *rand.Rand) api.Val {
	var l []api.Val
	other := func() api.Val {
		if r.Intn(4) == 0 {
			return random(r, 3)
		}
		return integer(r.Intn(6))
	}
	for range r.Intn(15) {
		l = append(l, tuple(other(), other()))
	}
	return sorted(l...)
}

// P3.14
func TestMapLaws(t *testing.T) {
	ok := must(t)
	r := rand.New(rand.NewSource(11))
	for range 400 {
		f := randomMap(r)
		domain, values, e := val.Sides(f)
		inverse := ok(val.Inverse(f))
		expect(t, "Inverse of Inverse", ok(val.Inverse(inverse)), api.OK, f)
		other, more, d := val.Sides(inverse)
		expect(t, "the domain of the inverse", other, d, values)
		expect(t, "the range of the inverse", more, d, domain)
		var again, xs, ys []api.Val
		for _, pair := range f.L {
			xs, ys = append(xs, pair.L[0]), append(ys, pair.L[1])
		}
		expect(t, "the domain", domain, e, sorted(xs...))
		expect(t, "the range", values, e, sorted(ys...))
		for _, x := range append(integers(-1, 8), domain.L...) {
			image := ok(val.Image(f, x))
			for _, y := range image.L {
				again = append(again, tuple(x, y))
			}
			for _, y := range append(integers(-1, 8), values.L...) {
				_, is := val.Find(f, tuple(x, y))
				if _, found := val.Find(image, y); found != is {
					t.Errorf("%s is in the image of %s: %v", told(y), told(x), found)
				}
			}
			only := om
			if len(image.L) == 1 {
				only = image.L[0]
			}
			expect(t, "Apply", ok(val.Apply(f, x)), api.OK, only)
		}
		expect(t, "the images together", sorted(again...), api.OK, f)
	}
}

// P3.15
func TestHashLaws(t *testing.T) {
	ok := must(t)
	r := rand.New(rand.NewSource(12))
	sum := func(s api.Val) uint32 {
		all := uint32(0)
		for _, x := range s.L {
			all += val.Share(x)
		}
		return all
	}
	all := many(12)
	for range 400 {
		var l []api.Val
		for range r.Intn(12) {
			l = append(l, all[r.Intn(len(all))])
		}
		s, grown := ok(val.Set(l)), set()
		for _, x := range l {
			more := ok(val.With(grown, x))
			if _, is := val.Find(grown, x); !is && val.Hash(more) != val.Total(sum(grown)+val.Share(x), len(grown.L)+1) {
				t.Errorf("the hash of %s is %d", told(more), val.Hash(more))
			}
			grown = more
		}
		at := r.Intn(len(s.L) + 1)
		a, b := set(s.L[:at]...), set(s.L[at:]...)
		joined := ok(val.Union(b, a))
		if h := val.Hash(joined); h != val.Total(sum(a)+sum(b), len(s.L)) {
			t.Errorf("the hash of %s is %d", told(joined), h)
		}
		made := []api.Val{s, grown, joined, ok(val.Less(ok(val.With(s, str("new"))), str("new"))), val.Copy(s), twin(s), ok(val.Renamed(s, []int{1, 2}, []int{0}))}
		for _, v := range made {
			if val.Hash(v) != val.Hash(s) || val.Share(v) != val.Share(s) || val.Hash(tuple(v, v)) != val.Hash(tuple(s, s)) {
				t.Errorf("the hash of %s depends on how it was made", told(v))
			}
		}
	}
	// Integers, decimals, texts, atoms and procedures with the same fields have other hashes.
	found := map[uint32]api.Val{}
	for _, v := range ascending() {
		if other, is := found[val.Hash(v)]; is {
			t.Errorf("%s and %s have the same hash", told(other), told(v))
		}
		found[val.Hash(v)] = v
	}
}

// exchange is a list of numbers, from first on, of which some are exchanged.
func exchange(r *rand.Rand, first int) []int {
	l := make([]int, 6)
	for i := range l {
		l[i] = first + i
	}
	for i := 0; i+1 < len(l); i += 2 {
		if r.Intn(3) > 0 {
			l[i], l[i+1] = l[i+1], l[i]
		}
	}
	if r.Intn(2) == 0 { // the pairs of others: 0 and 3, 1 and 2
		return []int{first + 3, first + 2, first + 1, first}
	}
	return l
}

// shuffled is a list of other numbers, from first on, each once.
func shuffled(r *rand.Rand, first int) []int {
	l := r.Perm(7)
	for i := range l {
		l[i] += first
	}
	return l
}

// P3.16
func TestRenamings(t *testing.T) {
	ok := must(t)
	r := rand.New(rand.NewSource(13))
	all := append(many(13), om)
	for range 60 {
		all = append(all, sorted(tuple(atom(1+r.Intn(6)), proc(r.Intn(6))), tuple(atom(1+r.Intn(6)), atom(1+r.Intn(6))), tuple(proc(r.Intn(6)), integer(1))))
	}
	for range 8 {
		atoms, procs := exchange(r, 1), exchange(r, 0)
		once := shuffled(r, 1)
		other := shuffled(r, 0)
		for i, v := range all {
			expect(t, "Renamed twice", ok(val.Renamed(ok(val.Renamed(v, atoms, procs)), atoms, procs)), api.OK, v)
			w := ok(val.Renamed(v, once, other))
			if val.Nodes(v) != val.Nodes(w) || val.Deep(v) != val.Deep(w) || val.IsPair(v) != val.IsPair(w) || val.IsMap(v) != val.IsMap(w) {
				t.Errorf("%s becomes %s", told(v), told(w))
			}
			for _, x := range []api.Val{all[r.Intn(len(all))], all[i/2], v} {
				y := ok(val.Renamed(x, once, other))
				if same(v, x) != same(w, y) {
					t.Errorf("%s and %s become %s and %s", told(v), told(x), told(w), told(y))
				}
			}
			for _, x := range append(slices.Clone(v.L), atom(1+r.Intn(7)), proc(r.Intn(7)), integer(r.Intn(3))) {
				_, is := val.Find(v, x)
				if _, found := val.Find(w, ok(val.Renamed(x, once, other))); found != is {
					t.Errorf("%s becomes %s: has %s: %v", told(v), told(w), told(x), found)
				}
			}
		}
	}
}

// memory counts, of each piece of memory that values have, how often it is there.
func memory(l ...api.Val) (limbs map[*uint32]int, elements map[*api.Val]int) {
	limbs, elements = map[*uint32]int{}, map[*api.Val]int{}
	for _, v := range l {
		for _, x := range nodes(v) {
			full, all := x.Int.Abs[:cap(x.Int.Abs)], x.L[:cap(x.L)]
			for i := range full {
				limbs[&full[i]]++
			}
			for i := range all {
				elements[&all[i]]++
			}
		}
	}
	return limbs, elements
}

// P3.17 and G6: results share no memory with arguments, nor with each other.
func TestMemoryIsShared(t *testing.T) {
	a := sorted(pair(1, 2), pair(1, 3), pair(2, 5), set(large(twoTo(70, 1)), tuple(om, atom(1), set(pair(7, 8)))))
	b := sorted(pair(1, 3), pair(4, 4), tuple(places(15, 1)), set(integer(1)))
	x := tuple(set(integer(6)), atom(2))
	f := twin(sorted(tuple(integer(1), x), tuple(x, integer(1)), tuple(x, x), tuple(x, set(integer(3)))))
	got := results(a, b, []api.Val{x, a, om, x, b, f})
	add := func(v api.Val, _ api.Errno) { got = append(got, v) }
	for _, s := range []api.Val{a, b, f, set(), set(x)} {
		for _, y := range []api.Val{a, b, f, set(), set(x)} {
			add(val.Union(s, y))
			add(val.Common(s, y))
			add(val.Minus(s, y))
			add(val.With(s, y))
			add(val.Less(s, y))
		}
	}
	add(val.Image(f, integer(1)))
	add(val.Image(f, x))
	add(val.Apply(f, integer(1)))
	add(val.Inverse(f))
	domain, values, _ := val.Sides(f)
	got = append(append(got, domain, values), val.Walk(f)...)
	limbs, elements := memory(append(got, a, b, x, f)...)
	for at, many := range elements {
		if many > 1 {
			t.Fatalf("%s is at one place of %d values", told(*at), many)
		}
	}
	for at, many := range limbs {
		if many > 1 {
			t.Fatalf("a limb %d is at one place of %d values", *at, many)
		}
	}
}

// overwrite changes all memory that values have.
func overwrite(l ...api.Val) {
	for _, v := range l {
		for _, x := range nodes(v) {
			for i := range x.Int.Abs {
				x.Int.Abs[i] ^= 0x5a5a5a5a
			}
		}
		for _, x := range nodes(v) {
			for i := range x.L {
				x.L[i] = atom(99)
			}
		}
	}
}

// P3.17 and G6: arguments stay as they are, and so do results when arguments are changed behind the call.
func TestMemory(t *testing.T) {
	r := rand.New(rand.NewSource(14))
	all := many(14)
	for range 300 {
		a, b := all[r.Intn(len(all))], all[r.Intn(len(all))]
		l := []api.Val{all[r.Intn(len(all))], om, b, all[r.Intn(len(all))], a, om}
		x, y, list := twin(a), twin(b), twins(l)
		got := results(x, y, list)
		if !same(x, a) || !same(y, b) || !slices.EqualFunc(list, l, same) {
			t.Fatalf("arguments have changed: %s, %s, %s", told(x), told(y), told(tuple(list...)))
		}
		before := twins(got)
		overwrite(append(list, x, y)...)
		overwrite(tuple(list...))
		if !slices.EqualFunc(got, before, same) {
			t.Fatalf("results have changed with %s, %s, %s", told(a), told(b), told(tuple(l...)))
		}
	}
	atoms, procs := []int{3, 2, 1}, []int{1, 0}
	v, _ := val.Renamed(tuple(atom(1), proc(1)), atoms, procs)
	if !slices.Equal(atoms, []int{3, 2, 1}) || !slices.Equal(procs, []int{1, 0}) {
		t.Error("Renamed has changed its lists")
	}
	atoms[0], procs[1] = 7, 7
	expect(t, "Renamed", v, api.OK, tuple(atom(3), proc(0)))
}

// G7: a call has the same result again.
func TestAgain(t *testing.T) {
	all := many(15)
	for i := range all[1:] {
		first := results(all[i], all[i+1], all[i:min(len(all), i+4)])
		if again := results(all[i], all[i+1], all[i:min(len(all), i+4)]); !slices.EqualFunc(first, again, same) {
			t.Errorf("%s and %s have other results again", told(all[i]), told(all[i+1]))
		}
	}
}
