package setop_test

import (
	"math/big"
	"math/rand"
	"slices"
	"strconv"
	"testing"

	"zermelo/api"
	"zermelo/setop"
	"zermelo/val"
)

// made is a result, with the function that it comes from, and whether it may be om.
type made struct {
	call  string
	value api.Val
	mayBe bool
}

// results are all results without a fault that functions have for two values and a list.
func results(t *testing.T, a, b api.Val, l []api.Val, pick int) []made {
	t.Helper()
	var all []made
	add := func(call string, mayBe bool) func(api.Val, int) {
		return func(x api.Val, fault int) {
			t.Helper()
			if fault == 0 {
				all = append(all, made{call, x, mayBe})
			} else if !same(x, om) || fault < 0 || fault >= len(faults) {
				t.Errorf("%s is %s beside the fault %d", call, told(x), fault)
			}
		}
	}
	for op := api.UnNeg; op <= api.UnElt; op++ {
		add("Un "+strconv.Itoa(op), op == api.UnArb)(setop.Un(op, a, pick))
	}
	for op := api.BiAdd; op <= api.BiOr; op++ {
		add("Bin "+strconv.Itoa(op), false)(setop.Bin(op, a, b))
	}
	add("Tup", false)(setop.Tup(append(l, a, om)))
	add("Set", false)(setop.Set(append(l, a, om, a)))
	add("Range", false)(setop.Range(api.VTup, l))
	add("Range", false)(setop.Range(api.VSet, l))
	add("Sel", true)(setop.Sel(a, l))
	add("Img", false)(setop.Img(a, l))
	add("Slice", false)(setop.Slice(a, l))
	add("Put", false)(setop.Put(a, l, b))
	add("PutImg", false)(setop.PutImg(a, l, b))
	add("PutSlice", false)(setop.PutSlice(a, l, b))
	for way := api.FrArb; way <= api.FrLast; way++ {
		x, rest, fault := setop.From(way, a, pick)
		add("From", true)(x, fault)
		add("From (rest)", false)(rest, fault)
	}
	for kind := api.ItElem; kind <= api.ItImage; kind++ {
		it, fault := setop.Begin(kind, a)
		if fault != 0 {
			continue
		}
		left := func(it api.Iter) {
			for _, x := range it.Left {
				add("Left", false)(x, 0)
			}
		}
		left(it)
		if x, y, rest, ok := setop.Next(it, pick); ok {
			add("Next", false)(x, 0)
			add("Next", kind == api.ItElem)(y, 0)
			left(rest)
		}
	}
	return all
}

// lists are lists of operands that go with a value.
func lists(r *rand.Rand, a api.Val) [][]api.Val {
	n := len(parts(a))
	all := [][]api.Val{nil, {integer(1)}, {integer(r.Intn(n + 2))}, {integer(1 + r.Intn(n+1)), integer(r.Intn(n + 1))}, {integer(r.Intn(5)), integer(r.Intn(5)), integer(r.Intn(9))}}
	if isMap(a) && n > 0 {
		all = append(all, []api.Val{a.L[r.Intn(n)].L[0]})
	}
	return all
}

// P5.11
func TestResultsAreFormed(t *testing.T) {
	r := rand.New(rand.NewSource(21))
	all := append(samples(22, 500), om)
	for _, a := range all {
		b := all[r.Intn(len(all))]
		if r.Intn(2) == 0 {
			b = a
		}
		for _, l := range lists(r, a) {
			for _, x := range results(t, a, b, l, r.Intn(100)) {
				if val.Check(x.value) != api.OK || x.value.Kind == api.VOm && !x.mayBe {
					t.Errorf("%s of %s, %s and %s is %s", x.call, told(a), told(b), toldAll(l), told(x.value))
				}
			}
		}
	}
}

// bin returns a function that carries out an operation, and tells of a fault.
func bin(t *testing.T) func(op int, a, b api.Val) api.Val {
	return func(op int, a, b api.Val) api.Val {
		t.Helper()
		x, fault := setop.Bin(op, a, b)
		if fault != 0 {
			t.Errorf("Bin %d of %s and %s has the fault %s", op, told(a), told(b), faults[fault])
		}
		return x
	}
}

// equal tells if two results are not the same.
func equal(t *testing.T, law string, a, b api.Val, of ...api.Val) {
	t.Helper()
	if !same(a, b) {
		t.Errorf("%s: %s and %s, of %s", law, told(a), told(b), toldAll(of))
	}
}

// P5.12
func TestSetLaws(t *testing.T) {
	do, yes := bin(t), boolean(true)
	const plus, less, times, mod = api.BiAdd, api.BiSub, api.BiMul, api.BiMod
	r := rand.New(rand.NewSource(23))
	universe := append(edges()[:40], integers(1, 20)...)
	part := func() api.Val {
		return set(selected(universe, func(api.Val) bool { return r.Intn(3) == 0 })...)
	}
	for range 600 {
		a, b, c := part(), part(), part()
		if r.Intn(4) == 0 {
			b = do(plus, a, b)
		}
		equal(t, "a * (b + c)", do(times, a, do(plus, b, c)), do(plus, do(times, a, b), do(times, a, c)), a, b, c)
		equal(t, "a + b * c", do(plus, a, do(times, b, c)), do(times, do(plus, a, b), do(plus, a, c)), a, b, c)
		equal(t, "a - (b + c)", do(less, a, do(plus, b, c)), do(less, do(less, a, b), c), a, b, c)
		equal(t, "a - b * c", do(less, a, do(times, b, c)), do(plus, do(less, a, b), do(less, a, c)), a, b, c)
		equal(t, "a mod b", do(mod, a, b), do(less, do(plus, a, b), do(times, a, b)), a, b)
		equal(t, "a mod b mod b", do(mod, do(mod, a, b), b), a, a, b)
		equal(t, "a mod (b mod c)", do(mod, a, do(mod, b, c)), do(mod, do(mod, a, b), c), a, b, c)
		for _, op := range []int{plus, times, mod} {
			equal(t, "exchanged", do(op, a, b), do(op, b, a), a, b)
		}
		for _, op := range []int{plus, times} {
			equal(t, "in any order", do(op, a, do(op, b, c)), do(op, do(op, a, b), c), a, b, c)
			equal(t, "twice", do(op, a, a), a, a)
		}
		equal(t, "a - b and a * b", do(plus, do(less, a, b), do(times, a, b)), a, a, b)
		size := func(s api.Val) int { return len(s.L) }
		if size(do(plus, a, b))+size(do(times, a, b)) != size(a)+size(b) {
			t.Errorf("the numbers of elements of %s and %s", told(a), told(b))
		}
		equal(t, "a subset of b", do(api.BiSubs, a, b), boolean(same(do(plus, a, b), b)), a, b)
		equal(t, "a includes b", do(api.BiIncs, a, b), do(api.BiSubs, b, a), a, b)
		equal(t, "a * b in a", do(api.BiSubs, do(times, a, b), a), yes, a, b)
		for _, x := range []api.Val{universe[r.Intn(len(universe))], a} {
			equal(t, "with", do(api.BiWith, a, x), do(plus, a, set(x)), a, x)
			equal(t, "less", do(api.BiLess, a, x), do(less, a, set(x)), a, x)
			equal(t, "in", do(api.BiIn, x, a), do(api.BiSubs, set(x), a), a, x)
			equal(t, "notin", do(api.BiNotin, x, a), boolean(same(do(api.BiLess, a, x), a)), a, x)
		}
	}
}

// P5.12
func TestSubsets(t *testing.T) {
	do := bin(t)
	r := rand.New(rand.NewSource(24))
	for many := range 9 {
		l := integers(1, many)
		for i := range l {
			if r.Intn(2) == 0 {
				l[i] = random(r, 3)
			}
		}
		a := set(l...)
		all, fault := setop.Un(api.UnPow, a, 0)
		if fault == api.FtLimit && many > 6 {
			continue
		}
		if fault != 0 || len(all.L) != 1<<len(a.L) {
			t.Errorf("%s has %d subsets, fault %s", told(a), len(all.L), faults[fault])
		}
		together, sum := set(), 0
		for n := range len(a.L) + 2 {
			some := do(api.BiNpow, a, integer(n))
			equal(t, "no common element", do(api.BiMul, together, some), set(), a)
			together, sum = do(api.BiAdd, together, some), sum+len(some.L)
			for _, s := range some.L {
				if len(s.L) != n || !same(do(api.BiSubs, s, a), boolean(true)) {
					t.Errorf("%s is a subset of %s with %d elements", told(s), told(a), n)
				}
			}
			if new(big.Int).Binomial(int64(len(a.L)), int64(n)).Cmp(big.NewInt(int64(len(some.L)))) != 0 {
				t.Errorf("%s has %d subsets of %d elements", told(a), len(some.L), n)
			}
		}
		equal(t, "the subsets of all sizes", together, all, a)
		if sum != len(all.L) {
			t.Errorf("%d subsets of all sizes, and %d", sum, len(all.L))
		}
	}
}

// someSequence returns a string, or a tuple that may have om in it.
func someSequence(r *rand.Rand, kind int) api.Val {
	var l []api.Val
	for range r.Intn(8) {
		switch {
		case kind == api.VStr:
			l = append(l, str(string([]byte{byte('a' + r.Intn(4))})))
		case r.Intn(4) == 0:
			l = append(l, om)
		default:
			l = append(l, random(r, 2))
		}
	}
	return sequence(kind, l)
}

// P5.13
func TestSequenceLaws(t *testing.T) {
	do, sure := bin(t), ok(t)
	r := rand.New(rand.NewSource(25))
	at := func(l ...int) []api.Val {
		var operands []api.Val
		for _, n := range l {
			operands = append(operands, integer(n))
		}
		return operands
	}
	for i := range 1500 {
		kind := []int{api.VStr, api.VTup}[i%2]
		a, b := someSequence(r, kind), someSequence(r, kind)
		n, m := len(parts(a)), len(parts(b))
		cut := r.Intn(n + 1)
		front, back := sure(setop.Slice(a, at(1, cut))), sure(setop.Slice(a, at(cut+1)))
		if len(parts(front)) == cut { // otherwise om at its end is gone
			equal(t, "both slices", do(api.BiAdd, front, back), a, a)
		}
		equal(t, "the second slice", sure(setop.Slice(a, at(cut+1, n))), back, a)
		both := do(api.BiAdd, a, b)
		equal(t, "the length", sure(setop.Un(api.UnLen, both, 0)), integer(n+m), a, b)
		for i := 1; i <= n+m+1; i++ {
			want, fault := setop.Sel(a, at(i))
			if i > n {
				want, fault = setop.Sel(b, at(i-n))
			}
			expectValue(t, "an element of both", sure(setop.Sel(both, at(i))), fault, want, 0)
		}
		from := 1 + r.Intn(n+1)
		to := from - 1 + r.Intn(n-from+2)
		put := sure(setop.PutSlice(a, at(from, to), b))
		// Elements behind what was put, or an element at its end that is not om, keep all of it.
		if m > 0 || to < n {
			equal(t, "the slice that was put", sure(setop.Slice(put, at(from, from-1+m))), b, a, b)
		}
		equal(t, "the slice put back", sure(setop.PutSlice(a, at(from, to), sure(setop.Slice(a, at(from, to))))), putBack(a, from, to), a)
		x, y := r.Intn(4), r.Intn(4)
		equal(t, "repeated", do(api.BiMul, a, integer(x+y)), do(api.BiAdd, do(api.BiMul, a, integer(x)), do(api.BiMul, integer(y), a)), a)
		equal(t, "repeated once", do(api.BiMul, integer(1), a), a, a)
		if n > 0 {
			element, fault := setop.Sel(a, at(n))
			expectValue(t, "the last element as a slice", sure(setop.Slice(a, at(n))), fault, sequence(kind, []api.Val{element}), 0)
		}
	}
}

// putBack is a sequence in which a slice is put where it was: without the om that it ends with.
func putBack(a api.Val, from, to int) api.Val {
	all := parts(a)
	end := to
	for end >= from && all[end-1].Kind == api.VOm {
		end--
	}
	return sequence(a.Kind, slices.Concat(all[:end], all[to:]))
}

// P5.14
func TestAssignmentLaws(t *testing.T) {
	sure := ok(t)
	r := rand.New(rand.NewSource(26))
	for i := range 1500 {
		a := []api.Val{someSequence(r, api.VStr), someSequence(r, api.VTup), randomMap(r, 4)}[i%3]
		b := random(r, 2)
		if r.Intn(4) == 0 {
			b = om
		}
		var l []api.Val
		var others [][]api.Val
		for j := range len(parts(a)) + 2 {
			others = append(others, []api.Val{integer(j + 1)})
		}
		switch a.Kind {
		case api.VSet:
			for _, pair := range a.L {
				others = append(others, pair.L[:1])
			}
			others = append(others, []api.Val{integer(1), integer(2)}, []api.Val{random(r, 3)}, []api.Val{integer(0)})
			l = others[r.Intn(len(others))]
		case api.VTup:
			l = []api.Val{integer(1 + r.Intn(len(a.L)+3))}
		case api.VStr:
			if len(a.Str) == 0 {
				continue
			}
			l, b = []api.Val{integer(1 + r.Intn(len(a.Str)))}, str([]string{"x", "a", "\n"}[r.Intn(3)])
		}
		put := sure(setop.Put(a, l, b))
		equal(t, "a(l) behind a(l) := b", sure(setop.Sel(put, l)), b, append(l, a, b)...)
		for _, other := range others {
			if !same(keyOf(other), keyOf(l)) {
				equal(t, "another part", sure(setop.Sel(put, other)), sure(setop.Sel(a, other)), a, b)
			}
		}
		if a.Kind != api.VSet {
			continue
		}
		images := set(random(r, 2), b)
		put = sure(setop.PutImg(a, l, images))
		equal(t, "a{l} behind a{l} := b", sure(setop.Img(put, l)), images, append(l, a, b)...)
		for _, other := range others {
			if !same(keyOf(other), keyOf(l)) {
				equal(t, "another image", sure(setop.Img(put, other)), sure(setop.Img(a, other)), a, b)
			}
		}
		without := sure(setop.PutImg(a, l, set()))
		equal(t, "without images", without, sure(setop.Bin(api.BiLessf, a, keyOf(l))), a)
		equal(t, "om as the only image", sure(setop.Put(a, l, om)), without, a)
		equal(t, "the same images again", sure(setop.PutImg(a, l, sure(setop.Img(a, l)))), a, a)
	}
}

// P5.15
func TestTakingLaws(t *testing.T) {
	do, sure := bin(t), ok(t)
	r := rand.New(rand.NewSource(27))
	for i := range 900 {
		a := []api.Val{set(parts(someSequence(r, api.VTup))...), someSequence(r, api.VTup), someSequence(r, api.VStr)}[i%3]
		ways := []int{api.FrArb}
		if a.Kind != api.VSet {
			ways = []int{api.FrFirst, api.FrLast}
		}
		for _, way := range ways {
			var taken []api.Val
			for left := a; len(parts(left)) > 0; {
				pick := r.Intn(1000) - 500
				x, rest, fault := setop.From(way, left, pick)
				if fault != 0 || !contains(parts(left), x) {
					t.Fatalf("%s was taken of %s, fault %s", told(x), told(left), faults[fault])
				}
				switch {
				case way == api.FrArb:
					equal(t, "with the element again", do(api.BiWith, rest, x), left, left)
					equal(t, "without it", do(api.BiLess, left, x), rest, left)
					equal(t, "what is chosen", sure(setop.Un(api.UnArb, left, pick)), x, left)
				case way == api.FrFirst:
					equal(t, "the first one again", sequence(a.Kind, append([]api.Val{x}, parts(rest)...)), left, left)
				default:
					all := parts(rest)
					for len(all) < len(parts(left))-1 { // om at the end is gone
						all = append(all, om)
					}
					equal(t, "the last one again", sequence(a.Kind, append(all, x)), left, left)
				}
				taken, left = append(taken, x), rest
			}
			want := slices.Clone(parts(a))
			switch way {
			case api.FrLast:
				slices.Reverse(want)
				if a.Kind == api.VTup { // om that was at the end when others were taken has never been taken
					want = selected(want, func(x api.Val) bool { return x.Kind != api.VOm })
				}
			case api.FrArb:
				taken = set(taken...).L
			}
			if !slices.EqualFunc(taken, want, same) {
				t.Errorf("%s was taken of %s by %d", toldAll(taken), told(a), way)
			}
		}
	}
}

// P5.15
func TestIteratorLaws(t *testing.T) {
	r := rand.New(rand.NewSource(28))
	for i := range 900 {
		a := []api.Val{randomMap(r, 4), someSequence(r, api.VTup), someSequence(r, api.VStr), random(r, 3)}[i%4]
		for kind := api.ItElem; kind <= api.ItImage; kind++ {
			it, fault := setop.Begin(kind, a)
			if fault != 0 {
				continue
			}
			left, any := it.Left, it.Any
			var came []api.Val
			for {
				x, y, rest, ok := setop.Next(it, r.Intn(1000)-500)
				if !ok {
					break
				}
				if kind != api.ItElem {
					belongs(t, a, x, y, kind)
					x = tuple(x, y)
				}
				came, it = append(came, x), rest
			}
			if any {
				slices.SortFunc(came, order)
			}
			if !slices.EqualFunc(came, left, same) {
				t.Errorf("%s came of %s", toldAll(came), toldAll(left))
			}
		}
	}
}

// belongs tells if x and y are not what an iterator over a value has.
func belongs(t *testing.T, a, x, y api.Val, kind int) {
	t.Helper()
	got, fault := setop.Sel(a, []api.Val{x})
	if kind == api.ItImage {
		got, fault = setop.Img(a, []api.Val{x})
	}
	if fault != 0 || !same(got, y) || a.Kind == api.VSet && len(image(a, x)) == 0 {
		t.Errorf("%s and %s came of %s", told(x), told(y), told(a))
	}
}

// P5.16
func TestNumberLaws(t *testing.T) {
	do, yes := bin(t), boolean(true)
	r := rand.New(rand.NewSource(29))
	var numbers []api.Val
	for _, a := range samples(30, 600) {
		if a.Kind == api.VInt {
			numbers = append(numbers, a)
		}
	}
	for range 60 {
		numbers = append(numbers, large(new(big.Int).Sub(new(big.Int).Rand(r, most()), twoTo(1278, 0))))
	}
	for _, a := range numbers {
		for range 12 {
			b := numbers[r.Intn(len(numbers))]
			order := number(a).Cmp(number(b))
			for op, holds := range map[int]bool{api.BiLt: order < 0, api.BiLe: order <= 0, api.BiGt: order > 0, api.BiGe: order >= 0, api.BiEq: order == 0, api.BiNe: order != 0} {
				equal(t, "the comparison "+strconv.Itoa(op), do(op, a, b), boolean(holds), a, b)
			}
			greater, less := do(api.BiMax, a, b), do(api.BiMin, a, b)
			equal(t, "max and min", do(api.BiLe, less, greater), yes, a, b)
			if !(same(greater, a) && same(less, b)) && !(same(greater, b) && same(less, a)) {
				t.Errorf("max and min of %s and %s are %s and %s", told(a), told(b), told(greater), told(less))
			}
			if number(b).Sign() == 0 {
				continue
			}
			q, m := do(api.BiQuo, a, b), do(api.BiMod, a, b)
			if back, fault := setop.Bin(api.BiMul, q, b); fault == 0 {
				equal(t, "(a div b) * b + a mod b", do(api.BiAdd, back, m), a, a, b)
			} else if len(a.Int.Abs) < api.MaxLimbs && len(b.Int.Abs) < api.MaxLimbs {
				t.Errorf("%s div %s is %s", told(a), told(b), told(q))
			}
			if number(b).Sign() > 0 {
				equal(t, "mod from 0", do(api.BiAnd, do(api.BiGe, m, integer(0)), do(api.BiLt, m, b)), yes, a, b)
			} else {
				equal(t, "mod down from 0", do(api.BiAnd, do(api.BiLe, m, integer(0)), do(api.BiGt, m, b)), yes, a, b)
			}
		}
	}
}

// P5.17: om where it must not be is found ahead of what stands behind it, and behind what stands ahead of it.
func TestOm(t *testing.T) {
	for op := api.UnNeg; op <= api.UnElt; op++ {
		x, fault := setop.Un(op, om, 0)
		if op == api.UnOm {
			expectValue(t, "UnOm", x, fault, boolean(true), 0)
			continue
		}
		expectValue(t, "Un "+strconv.Itoa(op)+" of om", x, fault, om, api.FtOm)
	}
	for op := api.BiAdd; op <= api.BiOr; op++ {
		for _, a := range edges() {
			if len(nodes(a)) > 50 {
				continue
			}
			_, fault := setop.Bin(op, om, a)
			_, behind := setop.Bin(op, a, om)
			want := modelBin(op, a, om).fault
			if op == api.BiEq || op == api.BiNe {
				if fault != 0 || behind != 0 {
					t.Errorf("Bin %d of om has the faults %s and %s", op, faults[fault], faults[behind])
				}
			} else if fault != api.FtOm || behind != want || want == 0 {
				t.Errorf("Bin %d of %s and om has the fault %s, exchanged %s", op, told(a), faults[behind], faults[fault])
			}
		}
	}
}

// P5.17: names of atoms and procedures do not matter.
func TestRenamedOperands(t *testing.T) {
	r := rand.New(rand.NewSource(31))
	named := func(deep int) api.Val {
		var l []api.Val
		for range r.Intn(6) {
			l = append(l, tuple([]api.Val{atom(1 + r.Intn(5)), proc(r.Intn(5)), integer(r.Intn(3)), set(atom(1 + r.Intn(5)))}[r.Intn(4)], []api.Val{atom(1 + r.Intn(5)), proc(r.Intn(5)), integer(r.Intn(3))}[r.Intn(3)]))
		}
		return []api.Val{set(l...), set(l...), tuple(l...), random(r, deep), atom(1 + r.Intn(5)), proc(r.Intn(5))}[r.Intn(6)]
	}
	for range 1500 {
		atoms, procs := r.Perm(6), r.Perm(6)
		for i := range atoms {
			atoms[i]++
		}
		other := func(x api.Val) api.Val {
			y, e := val.Renamed(x, atoms, procs)
			if e != api.OK {
				t.Fatal(e)
			}
			return y
		}
		a, b := named(3), named(3)
		var l []api.Val
		for range 1 + r.Intn(2) {
			switch {
			case isMap(a) && len(a.L) > 0 && r.Intn(2) == 0:
				l = append(l, a.L[r.Intn(len(a.L))].L[0])
			case r.Intn(2) == 0:
				l = append(l, named(2))
			default:
				l = append(l, integer(1+r.Intn(4)))
			}
		}
		var l2 []api.Val
		for _, x := range l {
			l2 = append(l2, other(x))
		}
		a2, b2 := other(a), other(b)
		keeps := func(call string, x api.Val, fault int) func(api.Val, int) {
			return func(y api.Val, due int) {
				t.Helper()
				expectValue(t, call+" of the renamed "+told(a)+", "+told(b), y, due, other(x), fault)
			}
		}
		for op := api.UnNeg; op <= api.UnElt; op++ {
			if op != api.UnStr && op != api.UnArb && op != api.UnTup {
				x, fault := setop.Un(op, a, 0)
				keeps("Un "+strconv.Itoa(op), x, fault)(setop.Un(op, a2, 0))
			}
		}
		for op := api.BiAdd; op <= api.BiOr; op++ {
			x, fault := setop.Bin(op, a, b)
			keeps("Bin "+strconv.Itoa(op), x, fault)(setop.Bin(op, a2, b2))
		}
		x, fault := setop.Sel(a, l)
		keeps("Sel", x, fault)(setop.Sel(a2, l2))
		x, fault = setop.Img(a, l)
		keeps("Img", x, fault)(setop.Img(a2, l2))
		x, fault = setop.Put(a, l, b)
		keeps("Put", x, fault)(setop.Put(a2, l2, b2))
		x, fault = setop.PutImg(a, l, b)
		keeps("PutImg", x, fault)(setop.PutImg(a2, l2, b2))
	}
}
