package val_test

import (
	"math"
	"math/big"
	"math/rand"
	"slices"
	"strings"
	"testing"

	"zermelo/api"
	"zermelo/val"
)

// checks compares what Check says of a value with what is wanted.
func checks(t *testing.T, v api.Val, want api.Errno) {
	t.Helper()
	if e := val.Check(v); e != want {
		t.Errorf("Check of %s is %d, want %d", told(v), e, want)
	}
}

// P3.1: formed values, and om.
func TestCheckFormed(t *testing.T) {
	for _, v := range append(many(1), ascending()...) {
		checks(t, v, api.OK)
	}
	empty := api.Int{Abs: []uint32{}}
	for _, v := range []api.Val{
		set(integer(1), places(10, 1), str("a")),
		{Int: empty, L: []api.Val{}}, {Kind: api.VBool, Int: empty, L: []api.Val{}}, {Kind: api.VInt, Int: empty, L: []api.Val{}},
		{Kind: api.VStr, Int: empty, L: []api.Val{}}, {Kind: api.VTup, Int: empty, L: []api.Val{}}, {Kind: api.VSet, Int: empty, L: []api.Val{}},
		str(strings.Repeat("x", api.MaxStr)), large(most()), large(minus(most())), decimal(most(), api.MaxScale),
		atom(math.MaxInt), proc(math.MaxInt), tuple(om, integer(1)), tuple(om, om, om, set()),
		nested(api.MaxDeep, tuple), nested(api.MaxDeep, set), tuple(integers(0, api.MaxNodes-1)...), set(integers(-5, api.MaxNodes-1)...),
	} {
		checks(t, v, api.OK)
	}
}

// foreign are values of a Kind, each with another field that is not zero.
func foreign(v api.Val) map[string]api.Val {
	l := map[string]api.Val{}
	for name, change := range map[string]func(v *api.Val){
		"N 1":       func(v *api.Val) { v.N = 1 },
		"N -1":      func(v *api.Val) { v.N = -1 },
		"Int 5":     func(v *api.Val) { v.Int.Abs = []uint32{5} },
		"Int -5":    func(v *api.Val) { v.Int = api.Int{Neg: true, Abs: []uint32{5}} },
		"Int -0":    func(v *api.Val) { v.Int.Neg = true },
		"Int 0":     func(v *api.Val) { v.Int.Abs = []uint32{0} },
		"Str":       func(v *api.Val) { v.Str = "a" },
		"Str 0":     func(v *api.Val) { v.Str = "\x00" },
		"L":         func(v *api.Val) { v.L = integers(1, 1) },
		"L with om": func(v *api.Val) { v.L = []api.Val{om} },
	} {
		other := v
		change(&other)
		l[name] = other
	}
	return l
}

// P3.1: fields that a Kind does not have.
func TestCheckFields(t *testing.T) {
	has := map[int]string{api.VBool: "N", api.VAtom: "N", api.VProc: "N", api.VInt: "Int", api.VDec: "N Int", api.VStr: "Str", api.VTup: "L", api.VSet: "L"}
	for _, v := range []api.Val{om, boolean(0), integer(0), integer(7), places(15, 1), str(""), str("a"), atom(1), proc(0), tuple(), tuple(integer(1)), set(), set(integer(1))} {
		for name, other := range foreign(v) {
			field, _, _ := strings.Cut(name, " ")
			if slices.Contains(strings.Fields(has[v.Kind]), field) {
				continue
			}
			if e := val.Check(other); e != api.ErrForm {
				t.Errorf("Check of the kind %d with %s is %d", v.Kind, name, e)
			}
		}
	}
	for _, kind := range []int{-1, 9, 10, math.MinInt, math.MaxInt} {
		checks(t, api.Val{Kind: kind}, api.ErrForm)
		checks(t, tuple(api.Val{Kind: kind}), api.ErrForm)
		checks(t, set(api.Val{Kind: kind}), api.ErrForm)
	}
}

// P3.1: fields that a Kind has.
func TestCheckForms(t *testing.T) {
	for _, v := range []api.Val{
		boolean(2), boolean(-1), atom(0), atom(-1), atom(math.MinInt), proc(-1), proc(math.MinInt),
		{Kind: api.VInt, Int: api.Int{Neg: true}}, {Kind: api.VInt, Int: api.Int{Abs: []uint32{0}}}, {Kind: api.VInt, Int: api.Int{Abs: []uint32{1, 0}}}, {Kind: api.VInt, Int: api.Int{Neg: true, Abs: []uint32{0, 0}}},
		{Kind: api.VDec, N: 1, Int: api.Int{Neg: true}}, {Kind: api.VDec, N: 1, Int: api.Int{Abs: []uint32{5, 0}}},
		places(5, 0), places(5, -1), places(5, api.MaxScale+1), places(5, math.MaxInt), places(5, math.MinInt), places(0, 0), places(0, 2), places(0, api.MaxScale),
		places(20, 2), places(-300, 3), decimal(new(big.Int).Mul(big.NewInt(10), twoTo(100, 0)), 5), decimal(new(big.Int).Mul(big.NewInt(10), twoTo(1200, 1)), api.MaxScale),
		tuple(om), tuple(integer(1), om), tuple(om, om), tuple(tuple(om)),
		set(om), set(om, integer(1)), set(integer(1), om), set(integer(1), integer(1)), set(str("a"), integer(1)), set(integer(1), integer(3), integer(2)),
		set(set(), set()), set(integer(1), set(integer(2), integer(2))), set(tuple(integer(2)), tuple(integer(1))), tuple(integer(1), set(integer(2), integer(1)), integer(3)),
	} {
		checks(t, v, api.ErrForm)
	}
	for b := range 256 {
		want := api.ErrForm
		if b == 10 || b >= 32 && b <= 126 {
			want = api.OK
		}
		for _, s := range []string{"", "a", "ab\n"} {
			checks(t, str(s+string([]byte{byte(b)})+s), want)
		}
	}
	for n := range 1000 {
		want := api.OK
		if n%10 == 0 {
			want = api.ErrForm
		}
		checks(t, places(n, 2), want)
		checks(t, places(-n, api.MaxScale), want)
		checks(t, places(n, 1), api.OK)
		// Above 2 to the power of 32, a limb more decides with.
		long := new(big.Int).Add(new(big.Int).Mul(big.NewInt(10), twoTo(64, 5)), big.NewInt(int64(n)))
		checks(t, decimal(long, 7), want)
	}
}

// limbsOf are the limbs of a magnitude that ends in a digit, is so long, and has that limb on top.
func limbsOf(many int, digit uint32, top uint32) []uint32 {
	l := make([]uint32, many)
	l[many-1] = top
	n := api.Int{Abs: l}
	rest := new(big.Int).Mod(number(api.Val{Int: n}).Num(), big.NewInt(10)).Int64()
	l[0] = uint32((int64(digit) + 10 - rest) % 10)
	return l
}

// P3.1: limits of single nodes, and what comes ahead of them.
func TestCheckLengths(t *testing.T) {
	for _, limbs := range []int{api.MaxLimbs + 1, api.MaxBig, api.MaxBig + 1, 1000} {
		for _, neg := range []bool{false, true} {
			number := func(kind, places int, digit, top uint32) api.Val {
				return api.Val{Kind: kind, N: places, Int: api.Int{Neg: neg, Abs: limbsOf(limbs, digit, top)}}
			}
			checks(t, number(api.VInt, 0, 0, 1), api.ErrLimit)
			checks(t, number(api.VInt, 0, 7, 1<<31), api.ErrLimit)
			checks(t, number(api.VInt, 0, 7, 0), api.ErrForm)
			checks(t, number(api.VInt, 1, 7, 1), api.ErrForm)
			checks(t, number(api.VDec, 1, 7, 1), api.ErrLimit)
			checks(t, number(api.VDec, 1, 0, 1), api.ErrLimit)
			checks(t, number(api.VDec, 5, 3, 1), api.ErrLimit)
			checks(t, number(api.VDec, 2, 0, 1), api.ErrForm)
			checks(t, number(api.VDec, api.MaxScale, 0, 12345), api.ErrForm)
			checks(t, number(api.VDec, 0, 7, 1), api.ErrForm)
			checks(t, number(api.VDec, api.MaxScale+1, 7, 1), api.ErrForm)
			checks(t, number(api.VDec, 5, 3, 0), api.ErrForm)
			checks(t, number(api.VStr, 0, 3, 1), api.ErrForm)
		}
	}
	long := strings.Repeat("x", api.MaxStr)
	checks(t, str(long+"x"), api.ErrLimit)
	checks(t, str(long+"\t"), api.ErrForm)
	checks(t, str("\x7f"+long), api.ErrForm)
	checks(t, str(long+long+long), api.ErrLimit)
	checks(t, api.Val{Kind: api.VStr, N: 1, Str: long + "x"}, api.ErrForm)
	checks(t, api.Val{Kind: api.VInt, Str: long + "x"}, api.ErrForm)
}

// P3.1: the first node that fails tells the error.
func TestCheckOrder(t *testing.T) {
	huge, wrong := str(strings.Repeat("x", api.MaxStr+1)), boolean(2)
	for _, c := range []struct {
		v    api.Val
		want api.Errno
	}{
		{tuple(huge, wrong), api.ErrLimit}, {tuple(wrong, huge), api.ErrForm}, {tuple(tuple(integer(1), huge), wrong), api.ErrLimit}, {tuple(tuple(wrong), huge), api.ErrForm},
		// A node comes ahead of its elements.
		{tuple(huge, om), api.ErrForm}, {tuple(tuple(huge), om), api.ErrForm}, {api.Val{Kind: api.VTup, N: 1, L: []api.Val{huge}}, api.ErrForm}, {api.Val{Kind: api.VInt, L: []api.Val{huge}}, api.ErrForm},
		{api.Val{Kind: 9, L: []api.Val{huge}}, api.ErrForm},
		// An element of a set is compared behind its own nodes, and ahead of those of the next one.
		{set(om, huge), api.ErrForm}, {set(huge, om), api.ErrLimit}, {set(integer(2), integer(1), huge), api.ErrForm}, {set(integer(2), huge, integer(1)), api.ErrLimit},
		{set(integer(2), integer(2), huge), api.ErrForm}, {set(integer(1), om, huge), api.ErrForm}, {set(integer(1), huge, om), api.ErrLimit},
		{set(set(), tuple(huge)), api.ErrLimit}, {set(set(), tuple(integer(1), wrong), huge), api.ErrForm}, {set(set(), tuple(integer(1)), huge), api.ErrForm},
		{tuple(set(integer(2), integer(1)), huge), api.ErrForm}, {tuple(set(integer(1), integer(2)), huge), api.ErrLimit},
		{set(set(integer(2), integer(1)), huge), api.ErrForm}, {set(set(integer(1)), set(), huge), api.ErrForm}, {set(set(huge), set(om)), api.ErrLimit},
	} {
		checks(t, c.v, c.want)
	}
}

// P3.1: how many nodes there are, and how deep, comes ahead of what a node is.
func TestCheckLimits(t *testing.T) {
	checks(t, tuple(integers(0, api.MaxNodes)...), api.ErrLimit)
	checks(t, set(integers(0, api.MaxNodes)...), api.ErrLimit)
	checks(t, tuple(tuple(integers(0, api.MaxNodes-1)...)), api.ErrLimit)
	half := tuple(integers(0, api.MaxNodes/2-1)...)
	checks(t, tuple(half, half), api.ErrLimit)
	checks(t, tuple(half, tuple(half.L[1:]...)), api.OK)
	oms := make([]api.Val, api.MaxNodes)
	checks(t, tuple(append(oms[:api.MaxNodes-2:api.MaxNodes-2], integer(1))...), api.OK)
	checks(t, tuple(append(oms[:api.MaxNodes-1:api.MaxNodes-1], integer(1))...), api.ErrLimit)
	wrong := boolean(2)
	for _, c := range []struct {
		ahead int // elements ahead of the wrong one
		want  api.Errno
	}{{api.MaxNodes - 2, api.ErrForm}, {api.MaxNodes - 1, api.ErrLimit}, {api.MaxNodes, api.ErrLimit}} {
		checks(t, tuple(append(integers(0, c.ahead), wrong)...), c.want)
		checks(t, set(append(integers(0, c.ahead), integer(0))...), c.want)
		checks(t, set(append(integers(0, c.ahead), om)...), c.want)
		checks(t, tuple(append(integers(0, c.ahead), tuple(om))...), c.want)
	}
	for deep := 1; deep < api.MaxDeep+3; deep++ {
		want, other := api.OK, api.ErrForm
		if deep > api.MaxDeep {
			want, other = api.ErrLimit, api.ErrLimit
		}
		for _, around := range []func(l ...api.Val) api.Val{tuple, set} {
			v := nested(deep, around)
			checks(t, v, want)
			w := twin(v)
			in := &w
			for len(in.L) > 0 {
				in = &in.L[0]
			}
			*in = wrong
			checks(t, w, other)
		}
	}
}

// P3.1: values without an end, and values that are larger than memory if they are written out.
func TestCheckEndless(t *testing.T) {
	for _, kind := range []int{api.VTup, api.VSet} {
		for _, width := range []int{1, 2, 50} {
			l := make([]api.Val, width)
			v := api.Val{Kind: kind, L: l}
			for i := range l {
				l[i] = v
			}
			checks(t, v, api.ErrLimit)
		}
	}
	v := integer(1)
	for range api.MaxDeep - 1 {
		v = tuple(v, v, v, v, v)
	}
	checks(t, v, api.ErrLimit)
}

// trial is what Check looks at: it fails with an error, or does not.
type trial struct {
	fails bool
	e     api.Errno
}

// trials lists what Check has to look at, one after the other, told a second time.
func trials(v api.Val, deep int, l []trial) []trial {
	n := v.Kind == api.VBool || v.Kind == api.VDec || v.Kind == api.VAtom || v.Kind == api.VProc
	hasInt := v.Kind == api.VInt || v.Kind == api.VDec
	hasL := v.Kind == api.VTup || v.Kind == api.VSet
	top := len(v.Int.Abs) - 1
	digits := number(api.Val{Int: v.Int}).Num().String()
	bad := strings.IndexFunc(v.Str, func(r rune) bool { return r != '\n' && (r < ' ' || r > '~') })
	for _, fails := range []bool{
		v.Kind < api.VOm || v.Kind > api.VSet, !n && v.N != 0, !hasInt && (v.Int.Neg || top >= 0), v.Kind != api.VStr && v.Str != "", !hasL && len(v.L) > 0,
		v.Kind == api.VBool && v.N>>1 != 0, v.Kind == api.VAtom && v.N < 1, v.Kind == api.VProc && v.N < 0,
		hasInt && top >= 0 && v.Int.Abs[top] == 0, hasInt && top < 0 && v.Int.Neg,
		v.Kind == api.VDec && (v.N < 1 || v.N > api.MaxScale || v.N > 1 && strings.HasSuffix(digits, "0")),
		v.Kind == api.VStr && bad >= 0, v.Kind == api.VTup && len(v.L) > 0 && v.L[len(v.L)-1].Kind == api.VOm,
	} {
		l = append(l, trial{fails, api.ErrForm})
	}
	l = append(l, trial{len(v.Int.Abs) > api.MaxLimbs || len(v.Str) > api.MaxStr, api.ErrLimit})
	for i, x := range v.L {
		l = append(l, trial{deep >= api.MaxDeep, api.ErrLimit})
		l = trials(x, deep+1, l)
		if v.Kind == api.VSet {
			l = append(l, trial{x.Kind == api.VOm || i > 0 && order(v.L[i-1], x) >= 0, api.ErrForm})
		}
	}
	return l
}

// spoil makes one field of one node another one, by chance.
func spoil(r *rand.Rand, v *api.Val) {
	for len(v.L) > 0 && r.Intn(4) > 0 {
		v = &v.L[r.Intn(len(v.L))]
	}
	i := r.Intn(max(1, len(v.L)))
	changes := []func(){
		func() { v.Kind = r.Intn(12) - 1 },
		func() { v.N = r.Intn(25) - 2 },
		func() { v.Int.Neg = !v.Int.Neg },
		func() { v.Int.Abs = append(v.Int.Abs, uint32(r.Intn(3))) },
		func() { v.Int.Abs = limbsOf(api.MaxLimbs+r.Intn(2), uint32(r.Intn(2)), 3) },
		func() { v.Str += string([]byte{byte(r.Intn(140))}) },
		func() { v.Str += strings.Repeat("a", api.MaxStr-r.Intn(2)) },
		func() { v.L = append(v.L, om) },
		func() { v.L = slices.Insert(v.L, min(i, len(v.L)), om) },
		func() { v.L = append(v.L, v.L[min(i, len(v.L)):]...) },
		func() { slices.Reverse(v.L) },
		func() { *v = tuple(nested(api.MaxDeep-3, set), *v) },
	}
	changes[r.Intn(len(changes))]()
}

// P3.1: of values with one wrong field, and more.
func TestCheckByChance(t *testing.T) {
	r := rand.New(rand.NewSource(2))
	found := map[api.Errno]int{}
	for range 20000 {
		v := twin(tuple(random(r, 4), random(r, 3), integer(0)))
		for range 1 + r.Intn(3) {
			spoil(r, &v)
		}
		want := api.OK
		l := trials(v, 1, nil)
		if at := slices.IndexFunc(l, func(x trial) bool { return x.fails }); at >= 0 {
			want = l[at].e
		}
		checks(t, v, want)
		found[want]++
	}
	for _, e := range []api.Errno{api.OK, api.ErrForm, api.ErrLimit} {
		if found[e] < 300 {
			t.Errorf("only %d values with error %d", found[e], e)
		}
	}
}
