package dec_test

import (
	"math"
	"math/big"
	"math/rand"
	"strings"
	"testing"

	"zermelo/api"
	"zermelo/dec"
	"zermelo/num"
)

// P2.1
func TestCheck(t *testing.T) {
	for _, a := range many(t) {
		if e := dec.Check(a); e != api.OK {
			t.Errorf("Check of %s is %d", told(a), e)
		}
	}
	for _, a := range []api.Val{{Kind: api.VDec, N: 1}, raw(big.NewInt(20), 1), raw(big.NewInt(-1000), 1), raw(big.NewInt(-1), api.MaxScale), {Kind: api.VDec, N: 1, L: []api.Val{}}} {
		if e := dec.Check(a); e != api.OK {
			t.Errorf("Check of %s is %d", told(a), e)
		}
	}
	for i, a := range notDecimals() {
		if e := dec.Check(a); e != api.ErrForm {
			t.Errorf("Check of %s (%d) is %d, want ErrForm", told(a), i, e)
		}
	}
}

// P2.1
func TestMake(t *testing.T) {
	for _, c := range []struct {
		n, places int
		want      string
	}{{25, 2, "0.25"}, {20, 1, "2.0"}, {-300, 2, "-3.0"}, {5, 0, "5.0"}, {0, 0, "0.0"}, {0, 20, "0.0"}, {100, 20, "0.000000000000000001"}, {-7, 20, "-0.00000000000000000007"}} {
		got, e := dec.Make(num.Of(c.n), c.places)
		expect(t, "Make", got, e, of(t, c.want), true)
	}
	l := []*big.Int{most(), twoTo(32*api.MaxLimbs, 0), twoTo(32*api.MaxBig, -1), new(big.Int).Mul(most(), tenTo(19)), new(big.Int).Mul(most(), tenTo(20))}
	for zeros := range 42 {
		l = append(l, tenTo(zeros), new(big.Int).Mul(big.NewInt(-7), tenTo(zeros)))
	}
	for _, n := range l {
		for places := range api.MaxScale + 1 {
			got, e := dec.Make(fromBig(n), places)
			want, fits := decimal(n, places)
			expect(t, "Make", got, e, want, fits)
		}
		for _, places := range []int{-1, api.MaxScale + 1, math.MinInt, math.MaxInt} {
			got, e := dec.Make(fromBig(n), places)
			refused(t, "Make", got, e, api.ErrArg)
		}
	}
	for _, n := range badInts() {
		for _, places := range []int{0, 5, -1, api.MaxScale + 1} {
			got, e := dec.Make(n, places)
			refused(t, "Make", got, e, api.ErrForm)
		}
	}
}

// P2.2
func TestCompareAndNeg(t *testing.T) {
	for _, a := range many(t) {
		got, e := dec.Neg(a)
		want, fits := roundedRat(new(big.Rat).Neg(ratOf(a)), api.MaxScale)
		expect(t, "Neg", got, e, want, fits)
		for _, b := range many(t) {
			if got, e := dec.Compare(a, b); e != api.OK || got != ratOf(a).Cmp(ratOf(b)) {
				t.Errorf("Compare of %s and %s is %d, error %d", told(a), told(b), got, e)
			}
		}
	}
}

// binary is an operation on two decimals, and the library's on their numbers: nil if there is no result.
type binary struct {
	name string
	do   func(a, b api.Val) (api.Val, api.Errno)
	want func(x, y *big.Rat) *big.Rat
}

// binaries are the operations on two decimals.
func binaries() []binary {
	return []binary{
		{"Add", dec.Add, func(x, y *big.Rat) *big.Rat { return new(big.Rat).Add(x, y) }},
		{"Sub", dec.Sub, func(x, y *big.Rat) *big.Rat { return new(big.Rat).Sub(x, y) }},
		{"Mul", dec.Mul, func(x, y *big.Rat) *big.Rat { return new(big.Rat).Mul(x, y) }},
		{"Div", dec.Div, func(x, y *big.Rat) *big.Rat {
			if y.Sign() == 0 {
				return nil
			}
			return new(big.Rat).Quo(x, y)
		}},
	}
}

// P2.3
func TestFourOperations(t *testing.T) {
	for _, o := range binaries() {
		for _, a := range many(t) {
			for _, b := range many(t) {
				call := o.name + " of " + told(a) + " and " + told(b)
				got, e := o.do(a, b)
				exact := o.want(ratOf(a), ratOf(b))
				if exact == nil {
					refused(t, call, got, e, api.ErrZero)
					continue
				}
				want, fits := roundedRat(exact, api.MaxScale)
				expect(t, call, got, e, want, fits)
			}
		}
	}
}

// P2.3: where results begin to be too large.
func TestTooLarge(t *testing.T) {
	top, small := raw(most(), api.MaxScale), raw(big.NewInt(1), api.MaxScale)
	got, e := dec.Add(top, small)
	refused(t, "Add", got, e, api.ErrLimit)
	got, e = dec.Sub(raw(new(big.Int).Neg(most()), api.MaxScale), small)
	refused(t, "Sub", got, e, api.ErrLimit)
	got, e = dec.Sub(top, small)
	expect(t, "Sub", got, e, raw(twoTo(32*api.MaxLimbs, -2), api.MaxScale), true)
	three := new(big.Int).Mul(big.NewInt(3), tenTo(385))
	got, e = dec.Add(top, raw(new(big.Int).Sub(three, most()), api.MaxScale))
	expect(t, "a sum that ends in zeros", got, e, raw(new(big.Int).Mul(big.NewInt(3), tenTo(366)), 1), true)
	got, e = dec.Mul(raw(most(), 1), of(t, "1.1"))
	refused(t, "Mul", got, e, api.ErrLimit)
	got, e = dec.Div(raw(most(), 1), small)
	refused(t, "Div", got, e, api.ErrLimit)
	// Zeros cannot go where a decimal has one place: this is too large, but with more places it would not be.
	got, e = dec.Add(raw(tenTo(385), 1), raw(new(big.Int).Mul(big.NewInt(2), tenTo(385)), 1))
	refused(t, "a sum with one place", got, e, api.ErrLimit)
}

// P2.3: results that lie midway between two decimals, or nearly so.
func TestMidway(t *testing.T) {
	for _, c := range []struct {
		do         func(a, b api.Val) (api.Val, api.Errno)
		a, b, want string
	}{
		{dec.Mul, "0.0000000001", "0.00000000005", "0.0"},
		{dec.Mul, "0.0000000003", "0.00000000005", "0.00000000000000000002"},
		{dec.Mul, "-0.0000000003", "0.00000000005", "-0.00000000000000000002"},
		{dec.Mul, "-0.0000000001", "0.00000000005", "0.0"},
		{dec.Mul, "0.00000000050000000001", "0.0000000001", "0.00000000000000000005"},
		{dec.Mul, "0.00000000005000000001", "0.0000000001", "0.00000000000000000001"},
		{dec.Div, "0.00000000000000000001", "2.0", "0.0"},
		{dec.Div, "0.00000000000000000003", "2.0", "0.00000000000000000002"},
		{dec.Div, "0.00000000000000000003", "-2.0", "-0.00000000000000000002"},
		{dec.Div, "-0.00000000000000000005", "2.0", "-0.00000000000000000002"},
		{dec.Div, "0.00000000000000000001", "1.99999999999999999999", "0.00000000000000000001"},
		{dec.Div, "0.00000000000000000001", "2.00000000000000000001", "0.0"},
	} {
		got, e := c.do(of(t, c.a), of(t, c.b))
		expect(t, c.a+", "+c.b, got, e, of(t, c.want), true)
	}
}

// powers are the exponents for which powers are looked at.
func powers() []int {
	return []int{
		0, 1, 2, 3, 5, 7, 10, 19, 20, 21, 33, 139, 140, 141, 280, 400, 466, 467, 1400, 1401, 2799, 2800, 2801, 9600, 9601, math.MaxInt,
		-1, -2, -3, -5, -7, -10, -19, -20, -21, -33, -139, -140, -141, -280, -400, -466, -467, -1400, -1401, -2799, -2800, -2801, -9600, -9601, math.MinInt,
	}
}

// P2.4
func TestPow(t *testing.T) {
	for _, a := range many(t) {
		for _, n := range powers() {
			checkPow(t, a, n)
		}
	}
	for _, c := range []struct {
		a    string
		n    int
		want string
	}{{"1.5", 3, "3.375"}, {"2.0", -2, "0.25"}, {"0.0", 0, "1.0"}, {"-3.5", 0, "1.0"}, {"0.0", 2800, "0.0"}, {"-1.0", 2799, "-1.0"}, {"-1.0", -2800, "1.0"}, {"-2.0", -3, "-0.125"}, {"0.1", 20, "0.00000000000000000001"}, {"0.1", 21, "0.0"}, {"0.1", -20, "100000000000000000000.0"}, {"-3.0", -1, "-0.33333333333333333333"}} {
		got, e := dec.Pow(of(t, c.a), c.n)
		expect(t, "Pow of "+c.a, got, e, of(t, c.want), true)
	}
}

// P2.4: the limits of exact powers, where what they are rounded to is not too large.
func TestPowLimits(t *testing.T) {
	for _, c := range []struct {
		n           *big.Int
		places      int
		last, first int // exponents: the last one that is not beyond a limit, and the first one that is
	}{
		{twoTo(1200, -1), 1, -8, -9}, {twoTo(1200, 0), 1, -7, -8}, {twoTo(1200, 1), 1, -7, -8}, {big.NewInt(50), 1, -1700, -1701},
		{big.NewInt(101), 2, 1400, 1401}, {big.NewInt(101), 2, -1400, -1401}, {big.NewInt(1), 20, 140, 141}, {big.NewInt(-1), 1, 2800, 2801},
		{big.NewInt(0), 1, 2800, 2801}, {big.NewInt(10), 1, 2800, 2801}, {big.NewInt(-10), 1, -2800, -2801},
	} {
		a := raw(c.n, c.places)
		if _, e := dec.Pow(a, c.last); e != api.OK {
			t.Errorf("Pow of %s by %d: error %d", told(a), c.last, e)
		}
		got, e := dec.Pow(a, c.first)
		refused(t, "Pow of "+told(a), got, e, api.ErrLimit)
		checkPow(t, a, c.last)
		checkPow(t, a, c.first)
	}
}

// checkPow holds Pow against the library's powers.
func checkPow(t *testing.T, a api.Val, n int) {
	t.Helper()
	got, e := dec.Pow(a, n)
	call := "a power of " + told(a) + " by " + big.NewInt(int64(n)).String()
	if n < -api.MaxPower || n > api.MaxPower {
		refused(t, call, got, e, api.ErrArg)
		return
	}
	if n < 0 && len(a.Int.Abs) == 0 {
		refused(t, call, got, e, api.ErrZero)
		return
	}
	size := max(n, -n)
	// A power has more bits than this: one that is far too large is not made.
	large := a.N*size > 2800 || (toBig(a.Int).BitLen()-1)*size >= 32*api.MaxBig
	power := new(big.Int)
	if !large {
		power.Exp(toBig(a.Int), big.NewInt(int64(size)), nil)
	}
	if large || power.BitLen() > 32*api.MaxBig {
		refused(t, call, got, e, api.ErrLimit)
		return
	}
	x, y := power, tenTo(a.N*size)
	if n < 0 {
		x, y = y, x
	}
	want, fits := rounded(x, y, api.MaxScale)
	expect(t, call, got, e, want, fits)
}

// P2.4: a power is rounded once: to round behind each factor, or ahead of the quotient, leads elsewhere.
func TestPowersAreRoundedOnce(t *testing.T) {
	ok := must[api.Val](t)
	for n, text := range map[int]string{3: "123.45678901234", -3: "0.0012345678901234"} {
		a := of(t, text)
		exact := new(big.Rat).Mul(ratOf(a), new(big.Rat).Mul(ratOf(a), ratOf(a)))
		steps := ok(dec.Mul(ok(dec.Mul(a, a)), a))
		if n < 0 {
			exact.Inv(exact)
			steps = ok(dec.Div(of(t, "1.0"), steps))
		}
		got, e := dec.Pow(a, n)
		want, fits := roundedRat(exact, api.MaxScale)
		expect(t, "Pow of "+text, got, e, want, fits)
		if same(steps, want) {
			t.Errorf("%s shows nothing: what is rounded more than once is the same", text)
		}
	}
}

// P2.4
func TestSqrt(t *testing.T) {
	for _, c := range [][2]string{{"2.0", "1.4142135623730950488"}, {"2.25", "1.5"}, {"0.0", "0.0"}, {"0.00000000000000000001", "0.0000000001"}, {"0.00000000000000000002", "0.00000000014142135624"}, {"1000000.0", "1000.0"}} {
		got, e := dec.Sqrt(of(t, c[0]))
		expect(t, "Sqrt of "+c[0], got, e, of(t, c[1]), true)
	}
	r := rand.New(rand.NewSource(9))
	l := many(t)
	for range 300 {
		l = append(l, random(r, 1+r.Intn(300)))
	}
	for _, a := range l {
		got, e := dec.Sqrt(a)
		if a.Int.Neg {
			refused(t, "Sqrt of "+told(a), got, e, api.ErrArg)
			continue
		}
		// The floor of 2 times the root, and 1 added, halved, is the nearest integer: none lies midway.
		square := new(big.Int).Mul(toBig(a.Int), tenTo(2*api.MaxScale-a.N))
		twice := new(big.Int).Sqrt(square.Lsh(square, 2))
		want, fits := decimal(twice.Rsh(twice.Add(twice, big.NewInt(1)), 1), api.MaxScale)
		expect(t, "Sqrt of "+told(a), got, e, want, fits)
	}
}

// P2.5
func TestRound(t *testing.T) {
	for _, c := range []struct {
		a      string
		places int
		want   string
	}{{"2.5", 0, "2.0"}, {"3.5", 0, "4.0"}, {"-2.5", 0, "-2.0"}, {"-3.5", 0, "-4.0"}, {"0.25", 1, "0.2"}, {"0.35", 1, "0.4"}, {"0.2501", 1, "0.3"}, {"-0.04", 1, "0.0"}, {"0.5", 0, "0.0"}, {"0.50000000000000000001", 0, "1.0"}, {"9.95", 1, "10.0"}, {"7.25", 20, "7.25"}, {"7.25", 2, "7.25"}} {
		got, e := dec.Round(of(t, c.a), c.places)
		expect(t, "Round of "+c.a, got, e, of(t, c.want), true)
	}
	for _, a := range many(t) {
		for places := range api.MaxScale + 1 {
			got, e := dec.Round(a, places)
			want, fits := roundedRat(ratOf(a), places)
			expect(t, "Round of "+told(a), got, e, want, fits)
		}
		for _, places := range []int{-1, api.MaxScale + 1, math.MinInt, math.MaxInt} {
			got, e := dec.Round(a, places)
			refused(t, "Round", got, e, api.ErrArg)
		}
	}
}

// P2.5: the greatest Int ends in 75, and the next multiple of 10, to which 7.5 is rounded, is too large.
func TestRoundTooLarge(t *testing.T) {
	less := func(n int64) *big.Int { return new(big.Int).Sub(most(), big.NewInt(n)) }
	got, e := dec.Round(raw(most(), 1), 0)
	refused(t, "Round of ..7.5", got, e, api.ErrLimit)
	got, e = dec.Round(raw(new(big.Int).Neg(most()), 1), 0)
	refused(t, "Round of -..7.5", got, e, api.ErrLimit)
	for _, c := range []struct{ from, to int64 }{{1, 5}, {5, 5}, {6, 5}, {10, 15}, {20, 15}} {
		got, e = dec.Round(raw(less(c.from), 1), 0)
		expect(t, "Round of less than ..7.5", got, e, raw(less(c.to), 1), true)
	}
	// Where a place stays, Int has a digit less, and fits.
	got, e = dec.Round(raw(most(), 2), 1)
	expect(t, "Round of ..75 to one place", got, e, raw(new(big.Int).Quo(twoTo(32*api.MaxLimbs, 4), big.NewInt(10)), 1), true)
}

// P2.5
func TestIntegers(t *testing.T) {
	for _, a := range many(t) {
		x := ratOf(a)
		floor := new(big.Int).Div(x.Num(), x.Denom())
		fix := new(big.Int).Quo(x.Num(), x.Denom())
		ceil := new(big.Int).Neg(new(big.Int).Div(new(big.Int).Neg(x.Num()), x.Denom()))
		for _, c := range []struct {
			name string
			do   func(api.Val) (api.Int, api.Errno)
			want *big.Int
		}{{"Floor", dec.Floor, floor}, {"Fix", dec.Fix, fix}, {"Ceil", dec.Ceil, ceil}} {
			if got, e := c.do(a); e != api.OK || !sameInt(got, fromBig(c.want)) {
				t.Errorf("%s of %s is %v, error %d; want %v", c.name, told(a), toBig(got), e, c.want)
			}
		}
	}
}

// P2.7
func TestText(t *testing.T) {
	for _, c := range []struct {
		n, places int
		want      string
	}{{-5, 2, "-0.05"}, {0, 1, "0.0"}, {20, 1, "2.0"}, {5, 1, "0.5"}, {-25, 1, "-2.5"}, {1234, 2, "12.34"}, {1, 20, "0.00000000000000000001"}, {-1000, 1, "-100.0"}} {
		if s, e := dec.Text(raw(big.NewInt(int64(c.n)), c.places)); e != api.OK || s != c.want {
			t.Errorf("Text of %d with %d places is %q, error %d; want %q", c.n, c.places, s, e, c.want)
		}
	}
	for _, a := range many(t) {
		if s, e := dec.Text(a); e != api.OK || s != ratOf(a).FloatString(a.N) {
			t.Errorf("Text of %s is %q, error %d", told(a), s, e)
		}
	}
}

// P2.7
func TestParse(t *testing.T) {
	for _, c := range []struct {
		s         string
		n, places int
	}{{"-0.0", 0, 1}, {"007.50", 75, 1}, {"0.100000000000000000000", 1, 1}, {"-00.000", 0, 1}, {"12.34", 1234, 2}, {"-0.05", -5, 2}, {"100.0", 1000, 1}, {"0.00000000000000000001", 1, 20}, {"-3.00000000000000000000000000000000000", -30, 1}} {
		got, e := dec.Parse(c.s)
		expect(t, c.s, got, e, raw(big.NewInt(int64(c.n)), c.places), true)
	}
	for _, s := range []string{"", "-", ".", "-.", ".5", "1.", "-1.", "-.5", "1", "-1", "--1.0", "+1.0", " 1.0", "1.0 ", "1.0.0", "1..0", "1,0", "1.-5", "1.5-", "1e5", "1.0e5", "a.5", "5.a", "0x1.0", "1.5\n", "\x001.5", "1.5\x00", "१.५", "1_0.0", "/.0", ":.0", "0./", "0.:"} {
		got, e := dec.Parse(s)
		refused(t, s, got, e, api.ErrForm)
	}
	for _, s := range []string{"0.000000000000000000001", "-1.123456789012345678901", "1.0000000000000000000000000000001"} {
		got, e := dec.Parse(s)
		refused(t, s, got, e, api.ErrLimit)
	}
}

// P2.7: the limits of Parse, and what comes first.
func TestParseLimits(t *testing.T) {
	zeros := func(n int) string { return strings.Repeat("0", n) }
	got, e := dec.Parse(zeros(api.MaxDecText-3) + "1.5")
	expect(t, "a text of 2000 bytes", got, e, of(t, "1.5"), true)
	got, e = dec.Parse("-1.5" + zeros(api.MaxDecText-4))
	expect(t, "a text of 2000 bytes", got, e, of(t, "-1.5"), true)
	for _, s := range []string{zeros(api.MaxDecText-2) + "1.5", "1.5" + zeros(api.MaxDecText-2), strings.Repeat("x", api.MaxDecText+1)} {
		got, e = dec.Parse(s)
		refused(t, "a text of 2001 bytes", got, e, api.ErrLimit)
	}
	got, e = dec.Parse(strings.Repeat("x", api.MaxDecText))
	refused(t, "a text of 2000 letters", got, e, api.ErrForm)
	for _, end := range []string{"x", "/", ":", "-", "."} {
		got, e = dec.Parse("0." + zeros(30) + "1" + end)
		refused(t, "a wrong form with too many places", got, e, api.ErrForm)
	}
	got, e = dec.Parse(strings.Repeat("9", api.MaxDecText-2) + ".9")
	refused(t, "nines", got, e, api.ErrLimit)
	// Ten times the integer is Int.
	whole := new(big.Int).Quo(most(), big.NewInt(10))
	got, e = dec.Parse(whole.String() + ".5")
	expect(t, "the greatest", got, e, raw(most(), 1), true)
	got, e = dec.Parse(whole.String() + ".6")
	refused(t, "one more", got, e, api.ErrLimit)
	got, e = dec.Parse("-" + whole.String() + ".6")
	refused(t, "one less", got, e, api.ErrLimit)
	got, e = dec.Parse(whole.String() + ".50000")
	expect(t, "the greatest, with zeros", got, e, raw(most(), 1), true)
}

// singles are calls with one decimal, as calls that return a value.
func singles() map[string]func(a api.Val) (api.Val, api.Errno) {
	whole := func(do func(api.Val) (api.Int, api.Errno)) func(api.Val) (api.Val, api.Errno) {
		return func(a api.Val) (api.Val, api.Errno) {
			n, e := do(a)
			return api.Val{Int: n}, e
		}
	}
	power := func(n int) func(api.Val) (api.Val, api.Errno) {
		return func(a api.Val) (api.Val, api.Errno) { return dec.Pow(a, n) }
	}
	round := func(places int) func(api.Val) (api.Val, api.Errno) {
		return func(a api.Val) (api.Val, api.Errno) { return dec.Round(a, places) }
	}
	return map[string]func(a api.Val) (api.Val, api.Errno){
		"Neg": dec.Neg, "Sqrt": dec.Sqrt, "Fix": whole(dec.Fix), "Floor": whole(dec.Floor), "Ceil": whole(dec.Ceil),
		"Pow 0": power(0), "Pow 1": power(1), "Pow -1": power(-1), "Pow -9601": power(-9601),
		"Round 0": round(0), "Round 20": round(20), "Round 21": round(21),
		"Text": func(a api.Val) (api.Val, api.Errno) {
			s, e := dec.Text(a)
			return api.Val{Str: s}, e
		},
	}
}

// The section Errors: an argument that is no decimal comes ahead of all other errors, and nothing else is returned.
func TestNotDecimals(t *testing.T) {
	for _, bad := range notDecimals() {
		for name, do := range singles() {
			got, e := do(bad)
			refused(t, name, got, e, api.ErrForm)
		}
		for _, good := range []string{"0.0", "1.0", "-2.5"} {
			for _, o := range binaries() {
				got, e := o.do(bad, of(t, good))
				refused(t, o.name, got, e, api.ErrForm)
				got, e = o.do(of(t, good), bad)
				refused(t, o.name, got, e, api.ErrForm)
			}
			if c, e := dec.Compare(bad, of(t, good)); c != 0 || e != api.ErrForm {
				t.Errorf("Compare is %d, error %d", c, e)
			}
			if c, e := dec.Compare(of(t, good), bad); c != 0 || e != api.ErrForm {
				t.Errorf("Compare is %d, error %d", c, e)
			}
		}
	}
}

// G6: arguments stay as they are, and results have memory of their own.
func TestMemory(t *testing.T) {
	spoil := func(l ...api.Int) {
		for _, n := range l {
			full := n.Abs[:cap(n.Abs)]
			for i := range full {
				full[i] ^= 0x5a5a5a5a
			}
		}
	}
	copied := func(n api.Int) api.Int { return fromBig(toBig(n)) }
	for _, a := range many(t) {
		x := api.Val{Kind: a.Kind, N: a.N, Int: copied(a.Int)}
		y := api.Val{Kind: a.Kind, N: a.N, Int: copied(a.Int)}
		zero, one := of(t, "0.0"), of(t, "1.0")
		for _, do := range singles() {
			got, _ := do(x)
			spoil(got.Int)
		}
		for _, o := range binaries() {
			for _, b := range []api.Val{zero, one, y} {
				got, _ := o.do(x, b)
				spoil(got.Int)
				got, _ = o.do(b, x)
				spoil(got.Int)
			}
		}
		for places := range api.MaxScale + 1 {
			got, _ := dec.Make(x.Int, places)
			spoil(got.Int)
		}
		for _, d := range []api.Int{one.Int, y.Int, fromBig(tenTo(api.MaxScale))} {
			v, c, _ := dec.Ratio(x.Int, d)
			value, q, rest := copied(v.Int), copied(c.Q), copied(c.Rest)
			if spoil(v.Int); !sameInt(c.Q, q) || !sameInt(c.Rest, rest) {
				t.Fatal("the results of Ratio share memory")
			}
			if spoil(c.Q); !sameInt(c.Rest, rest) || len(value.Abs) > 0 && sameInt(v.Int, value) {
				t.Fatal("the results of Ratio share memory")
			}
			spoil(c.Rest)
		}
		if !same(x, a) || !same(y, a) || !same(zero, of(t, "0.0")) || !same(one, of(t, "1.0")) {
			t.Fatal("an argument has changed, or a result shares its memory")
		}
	}
}
