package setop_test

import (
	"math"
	"math/big"
	"math/rand"
	"slices"
	"testing"

	"zermelo/api"
	"zermelo/setop"
)

// pieces counts, of each piece of memory that values have, how often it is there.
func pieces(l []api.Val) (limbs map[*uint32]int, elements map[*api.Val]int) {
	limbs, elements = map[*uint32]int{}, map[*api.Val]int{}
	for _, a := range l {
		for _, x := range nodes(a) {
			full, all := x.Int.Abs[:cap(x.Int.Abs)], x.L[:cap(x.L)]
			for i := range full {
				limbs[&full[i]]++
			}
			for i := range all {
				elements[&all[i]]++
			}
		}
	}
	return limbs, elements
}

// valuesOf are the values of results.
func valuesOf(results []made) []api.Val {
	var l []api.Val
	for _, x := range results {
		l = append(l, x.value)
	}
	return l
}

// resources are values whose parts have memory of their own.
func resources() []api.Val {
	big1, big2 := large(twoTo(70, 1)), large(minus(twoTo(99, 5)))
	part := tuple(om, big1, set(integer(6), big2))
	return []api.Val{
		big1, big2, integer(5), v("1.25"), v("-3.5"), str("ab"), str("c"), part, tuple(big2, part, set()), set(part, big1, integer(5)), set(big2, integer(5), part),
		set(tuple(integer(1), part), tuple(part, big1), tuple(part, big2), tuple(big1, big1)), set(tuple(integer(1), integer(2)), tuple(tuple(integer(1), integer(2)), part)), set(), tuple(),
	}
}

// G6: results share no memory with arguments, nor with each other, nor within themselves.
func TestMemoryIsShared(t *testing.T) {
	r := rand.New(rand.NewSource(41))
	for _, a := range resources() {
		for _, b := range resources() {
			a, b := twin(a), twin(b)
			for _, l := range append(lists(r, a), []api.Val{integer(1), integer(2)}, []api.Val{resources()[7]}) {
				l := twins(l)
				got := valuesOf(results(t, a, b, l, r.Intn(10)))
				limbs, elements := pieces(slices.Concat(got, []api.Val{a, b}, l))
				for at, many := range elements {
					if many > 1 {
						t.Fatalf("%s is at one place of %d values: %s, %s and %s", told(*at), many, told(a), told(b), toldAll(l))
					}
				}
				for at, many := range limbs {
					if many > 1 {
						t.Fatalf("a limb %d is at one place of %d values: %s, %s and %s", *at, many, told(a), told(b), toldAll(l))
					}
				}
			}
		}
	}
}

// overwrite changes all memory that values have.
func overwrite(l ...api.Val) {
	for _, a := range l {
		all := nodes(a)
		for _, x := range all {
			for i := range x.Int.Abs {
				x.Int.Abs[i] ^= 0x5a5a5a5a
			}
		}
		for _, x := range all {
			for i := range x.L {
				x.L[i] = atom(99)
			}
		}
	}
}

// G6 and G7: arguments stay as they are, results stay when arguments are changed behind the call, and a call has the same result again.
func TestMemory(t *testing.T) {
	r := rand.New(rand.NewSource(42))
	all := samples(43, 300)
	for range 600 {
		a, b := all[r.Intn(len(all))], all[r.Intn(len(all))]
		if len(nodes(a)) > 200 {
			continue
		}
		options := append(lists(r, a), []api.Val{all[r.Intn(len(all))], om})
		l := options[r.Intn(len(options))]
		x, y, operands := twin(a), twin(b), slices.Grow(twins(l), 5)
		pick := r.Intn(9)
		got := valuesOf(results(t, x, y, operands, pick))
		if !same(x, a) || !same(y, b) || !slices.EqualFunc(operands, l, same) {
			t.Fatalf("arguments have changed: %s, %s, %s", told(x), told(y), toldAll(operands))
		}
		again := valuesOf(results(t, x, y, operands, pick))
		overwrite(append(operands, x, y)...)
		for i := range operands {
			operands[i] = atom(98)
		}
		if !slices.EqualFunc(got, again, same) {
			t.Fatalf("results have changed with %s, %s, %s", told(a), told(b), toldAll(l))
		}
		for _, x := range got {
			overwrite(x)
		}
		if !slices.EqualFunc(again, valuesOf(results(t, a, b, l, pick)), same) {
			t.Fatalf("results are others with %s, %s, %s", told(a), told(b), toldAll(l))
		}
	}
}

// G6: an iterator stays as it is when the one behind it is used and changed.
func TestIteratorsAreKept(t *testing.T) {
	for _, a := range resources() {
		for kind := api.ItElem; kind <= api.ItImage; kind++ {
			it, fault := setop.Begin(kind, a)
			if fault != 0 || len(it.Left) == 0 {
				continue
			}
			before := twins(it.Left)
			x, y, rest, _ := setop.Next(it, 1)
			overwrite(append(rest.Left, x, y)...)
			for i := range rest.Left {
				rest.Left[i] = om
			}
			if !slices.EqualFunc(it.Left, before, same) {
				t.Errorf("an iterator over %s has changed: %s", told(a), toldAll(it.Left))
			}
			one, two, next, _ := setop.Next(it, 1)
			kept := twins(append(slices.Clone(next.Left), one, two))
			overwrite(it.Left...)
			if !slices.EqualFunc(kept, append(next.Left, one, two), same) {
				t.Errorf("what comes of an iterator over %s has changed", told(a))
			}
		}
	}
}

// G6: a sequence without elements may have room for some, which its results do not share.
func TestRoomIsNotShared(t *testing.T) {
	a := api.Val{Kind: api.VTup, L: make([]api.Val, 0, 3)}
	_, rest, _ := setop.From(api.FrFirst, a, 0)
	repeated, _ := setop.Bin(api.BiMul, a, integer(5))
	sum, _ := setop.Bin(api.BiAdd, a, a)
	for _, x := range []api.Val{rest, repeated, sum} {
		if x.L = append(x.L, integer(1)); !same(a.L[:1][0], om) {
			t.Errorf("what is put behind %s changes its operand", told(x))
		}
	}
}

// A choice takes any number.
func TestChoices(t *testing.T) {
	for _, pick := range []int{math.MinInt, math.MinInt + 1, -8, -7, -1, 0, 1, 6, 7, 8, 65535, math.MaxInt - 1, math.MaxInt} {
		for many := 1; many <= 8; many++ {
			a := some(many)
			want := a.L[indexOf(pick, many)]
			x, fault := setop.Un(api.UnArb, a, pick)
			expectValue(t, "UnArb", x, fault, want, 0)
			x, rest, fault := setop.From(api.FrArb, a, pick)
			expectValue(t, "From", x, fault, want, 0)
			it, _ := setop.Begin(api.ItElem, a)
			x, _, behind, _ := setop.Next(it, pick)
			expectValue(t, "Next", x, 0, want, 0)
			if !slices.EqualFunc(rest.L, behind.Left, same) || len(rest.L) != many-1 {
				t.Errorf("%s and %s are left", told(rest), toldAll(behind.Left))
			}
		}
	}
}

// odd returns what may be no value at all.
func odd(r *rand.Rand, deep int) api.Val {
	a := api.Val{Kind: r.Intn(13) - 2}
	if r.Intn(2) == 0 {
		a.Kind = []int{api.VTup, api.VSet, math.MinInt, math.MaxInt, 64, -64}[r.Intn(6)]
	}
	if r.Intn(2) == 0 {
		a.N = []int{-1, 0, 1, 2, 21, math.MinInt, math.MaxInt}[r.Intn(7)]
	}
	if r.Intn(2) == 0 {
		a.Int = []api.Int{{Neg: true}, {Abs: []uint32{0}}, {Abs: []uint32{5, 0}}, whole(twoTo(9700, 0)), whole(twoTo(1280, 0)), whole(big.NewInt(3))}[r.Intn(6)]
	}
	if r.Intn(2) == 0 {
		a.Str = []string{"\x00", "\xff", "a", "ab", string(make([]byte, 1001))}[r.Intn(5)]
	}
	if deep > 0 && r.Intn(4) > 0 {
		for range r.Intn(4) {
			x := odd(r, deep-1)
			if r.Intn(3) == 0 {
				x = random(r, 2)
			}
			a.L = append(a.L, x)
		}
	}
	return a
}

// What is no value leads to no panic, and to no result beside a fault.
func TestOddArguments(t *testing.T) {
	r := rand.New(rand.NewSource(44))
	for range 4000 {
		a, b := odd(r, 3), odd(r, 3)
		if r.Intn(2) == 0 {
			a = random(r, 3)
		}
		if r.Intn(3) == 0 {
			b.Kind = a.Kind
		}
		var l []api.Val
		for range r.Intn(4) {
			l = append(l, []api.Val{odd(r, 2), integer(1 + r.Intn(2)), random(r, 2)}[r.Intn(3)])
		}
		oddCalls(t, a, b, l, r.Int()-math.MaxInt/2)
		it := api.Iter{Kind: r.Intn(6) - 1, Any: r.Intn(2) == 0, Left: l}
		x, y, rest, ok := setop.Next(it, r.Intn(9)-4)
		if !ok && (!same(x, om) || !same(y, om) || rest.Kind != 0 || rest.Any || len(rest.Left) > 0) {
			t.Errorf("Next has results without ok: %v, %v, %v", x, y, rest)
		}
	}
}

// oddCalls calls all functions with what may be no values.
func oddCalls(t *testing.T, a, b api.Val, l []api.Val, pick int) {
	t.Helper()
	sound := func(x api.Val, fault int) {
		t.Helper()
		if fault < 0 || fault >= len(faults) || fault != 0 && !same(x, om) {
			t.Errorf("%v beside the fault %d", x, fault)
		}
	}
	for op := -1; op <= api.BiOr+1; op++ {
		sound(setop.Un(op, a, pick))
		sound(setop.Bin(op, a, b))
	}
	sound(setop.Tup(l))
	sound(setop.Set(l))
	sound(setop.Range(a.Kind, l))
	sound(setop.Sel(a, l))
	sound(setop.Img(a, l))
	sound(setop.Slice(a, l))
	sound(setop.Put(a, l, b))
	sound(setop.PutImg(a, l, b))
	sound(setop.PutSlice(a, l, b))
	for n := -1; n <= 3; n++ {
		x, rest, fault := setop.From(n, a, pick)
		sound(x, fault)
		sound(rest, fault)
		it, fault := setop.Begin(n, a)
		if fault != 0 && (it.Kind != 0 || it.Any || len(it.Left) > 0) {
			t.Errorf("Begin of %v has a result beside the fault %d", a, fault)
		}
	}
}
