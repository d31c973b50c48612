package num_test

import (
	"fmt"
	"math"
	"math/big"
	"math/rand"
	"strings"
	"testing"

	"zermelo/api"
	"zermelo/num"
)

// P1.1
func TestCheck(t *testing.T) {
	for _, a := range append(many(), of(true, 0, 1), of(false, 0, 0, 7)) {
		if e := num.Check(a); e != api.OK {
			t.Errorf("Check(%v) is %d", a, e)
		}
	}
	for _, a := range malformed() {
		if e := num.Check(a); e != api.ErrArg {
			t.Errorf("Check(%v) is %d, want ErrArg", a, e)
		}
	}
}

// call is a call with integers: what it returns, and its error.
type call struct {
	name string
	do   func(a, b api.Int) ([]api.Int, api.Errno)
}

// one returns a call of an operation with one result.
func one(name string, do func(a, b api.Int) (api.Int, api.Errno)) call {
	return call{name, func(a, b api.Int) ([]api.Int, api.Errno) {
		c, e := do(a, b)
		return []api.Int{c}, e
	}}
}

// pairCalls are the calls of all functions with two integers.
func pairCalls() []call {
	return []call{
		one("Add", num.Add),
		one("Sub", num.Sub),
		one("Mul", num.Mul),
		{"Div", func(a, b api.Int) ([]api.Int, api.Errno) {
			q, r, e := num.Div(a, b)
			return []api.Int{q, r}, e
		}},
		{"Gcd", func(a, b api.Int) ([]api.Int, api.Errno) {
			g, x, y, e := num.Gcd(a, b)
			return []api.Int{g, x, y}, e
		}},
	}
}

// singleCalls are the calls of functions with one integer, the first one.
func singleCalls() []call {
	power := func(n int) func(a, b api.Int) (api.Int, api.Errno) {
		return func(a, _ api.Int) (api.Int, api.Errno) { return num.Pow(a, n) }
	}
	root := func(n int) func(a, b api.Int) (api.Int, api.Errno) {
		return func(a, _ api.Int) (api.Int, api.Errno) { return num.Root(a, n) }
	}
	return []call{
		one("Pow 1", power(1)), one("Pow 3", power(3)), one("Pow -1", power(-1)), one("Pow 9600", power(9600)),
		one("Root 1", root(1)), one("Root 2", root(2)), one("Root 3", root(3)), one("Root 0", root(0)),
	}
}

// The section Errors: an integer that is not formed comes ahead of all other errors, and nothing else is returned.
func TestMalformedArguments(t *testing.T) {
	refused := func(name string, l []api.Int, e api.Errno) {
		if e != api.ErrArg {
			t.Errorf("%s: error %d, want ErrArg", name, e)
		}
		for _, a := range l {
			if !zero(a) {
				t.Errorf("%s returns %v together with an error", name, a)
			}
		}
	}
	for _, bad := range malformed() {
		for _, c := range pairCalls() {
			for _, good := range []api.Int{{}, num.Of(5), greatest()} {
				l, e := c.do(bad, good)
				refused(c.name, l, e)
				l, e = c.do(good, bad)
				refused(c.name, l, e)
			}
		}
		for _, c := range singleCalls() {
			l, e := c.do(bad, api.Int{})
			refused(c.name, l, e)
		}
		if n, e := num.Bits(bad); n != 0 || e != api.ErrArg {
			t.Errorf("Bits: %d, error %d", n, e)
		}
		if n, e := num.To(bad); n != 0 || e != api.ErrArg {
			t.Errorf("To: %d, error %d", n, e)
		}
		for _, base := range []int{1, 10} {
			if s, e := num.Text(bad, base); s != "" || e != api.ErrArg {
				t.Errorf("Text: %q, error %d", s, e)
			}
		}
		for _, a := range many() {
			if num.Compare(bad, a) != 0 || num.Compare(a, bad) != 0 {
				t.Errorf("Compare of %v is not 0", bad)
			}
		}
	}
}

// G6: arguments stay as they are, and results have memory of their own.
func TestMemory(t *testing.T) {
	for _, c := range append(pairCalls(), singleCalls()...) {
		for _, a := range many() {
			for _, b := range []api.Int{{}, num.Of(1), num.Of(-7), a, mixed(rand.New(rand.NewSource(3)), 150)} {
				x, y := fromBig(toBig(a)), fromBig(toBig(b))
				l, _ := c.do(x, y)
				before := make([]api.Int, len(l))
				for i := range l {
					before[i] = fromBig(toBig(l[i]))
				}
				for i := range l {
					if !same(l[i], before[i]) {
						t.Fatalf("%s: two results share memory", c.name)
					}
					full := l[i].Abs[:cap(l[i].Abs)]
					for j := range full {
						full[j] ^= 0x5a5a5a5a
					}
				}
				if !same(x, a) || !same(y, b) {
					t.Fatalf("%s has changed an argument, or a result shares its memory", c.name)
				}
			}
		}
	}
}

// P1.2
func TestCompare(t *testing.T) {
	for _, a := range many() {
		for _, b := range many() {
			if got, want := num.Compare(a, b), toBig(a).Cmp(toBig(b)); got != want {
				t.Errorf("Compare(%v, %v) is %d, want %d", toBig(a), toBig(b), got, want)
			}
		}
	}
}

// P1.3
func TestSumsAndProducts(t *testing.T) {
	for _, a := range many() {
		for _, b := range many() {
			x, y := toBig(a), toBig(b)
			sum, e := num.Add(a, b)
			expect(t, "Add", sum, e, new(big.Int).Add(x, y))
			difference, e := num.Sub(a, b)
			expect(t, "Sub", difference, e, new(big.Int).Sub(x, y))
			product, e := num.Mul(a, b)
			expect(t, "Mul", product, e, new(big.Int).Mul(x, y))
		}
	}
}

// P1.3, P1.4: products and quotients of all sizes, with limbs that carry, and for which the first guess is too large.
func TestManyProductsAndQuotients(t *testing.T) {
	r := rand.New(rand.NewSource(4))
	for range 3000 {
		a, b := mixed(r, r.Intn(12)), mixed(r, 1+r.Intn(6))
		if r.Intn(10) == 0 {
			a, b = mixed(r, r.Intn(200)), mixed(r, 1+r.Intn(200))
		}
		product, e := num.Mul(a, b)
		expect(t, "Mul", product, e, new(big.Int).Mul(toBig(a), toBig(b)))
		checkDiv(t, a, b)
	}
	// The guess by three limbs is still too large for these: the rest of them goes below 0.
	checkDiv(t, of(false, 0, 0, 1<<31, 1<<31-1), of(false, 1, 0, 1<<31))
	checkDiv(t, of(false, 3, 0, 1<<31), of(false, 1, 0, 1<<29))
	checkDiv(t, of(false, 0, 1<<32-1, 1<<31), of(false, 1<<32-1, 1<<31))
}

// P1.3: products around powers of 2, where a carry runs through all the limbs on top.
func TestProductsNearPowersOfTwo(t *testing.T) {
	r := rand.New(rand.NewSource(7))
	for _, limbs := range []int{1, 7, 80, 81, 100, 120, 149} {
		for range 10 {
			b := mixed(r, limbs)
			power := toBig(twoTo(uint(32*(limbs+r.Intn(api.MaxBig-limbs))), 0))
			near := new(big.Int).Quo(power, toBig(b))
			for d := int64(-1); d <= 1; d++ {
				a := fromBig(new(big.Int).Add(near, big.NewInt(d)))
				product, e := num.Mul(a, b)
				expect(t, "Mul", product, e, new(big.Int).Mul(toBig(a), toBig(b)))
				checkDiv(t, a, b)
			}
		}
	}
}

// P1.3: ErrLimit begins at 2 to the power of 9600.
func TestLimitOfResults(t *testing.T) {
	half := twoTo(16*api.MaxBig, 0)
	for _, c := range []struct {
		name string
		do   func(a, b api.Int) (api.Int, api.Errno)
		a, b api.Int
		want api.Errno
	}{
		{"Add", num.Add, greatest(), api.Int{}, api.OK},
		{"Add", num.Add, greatest(), num.Of(1), api.ErrLimit},
		{"Add", num.Add, minus(greatest()), num.Of(-1), api.ErrLimit},
		{"Sub", num.Sub, greatest(), num.Of(1), api.OK},
		{"Sub", num.Sub, greatest(), num.Of(-1), api.ErrLimit},
		{"Mul", num.Mul, greatest(), num.Of(-1), api.OK},
		{"Mul", num.Mul, half, half, api.ErrLimit},
		{"Mul", num.Mul, half, twoTo(16*api.MaxBig, -1), api.OK},
		{"Mul", num.Mul, greatest(), greatest(), api.ErrLimit},
		{"Mul", num.Mul, greatest(), api.Int{}, api.OK},
	} {
		got, e := c.do(c.a, c.b)
		if e != c.want || e != api.OK && !zero(got) || num.Check(got) != api.OK {
			t.Errorf("%s: error %d, want %d", c.name, e, c.want)
		}
	}
}

// checkDiv holds Div against the library's division, whose rest is never negative.
func checkDiv(t *testing.T, a, b api.Int) {
	t.Helper()
	q, r, e := num.Div(a, b)
	quotient, rest := new(big.Int).DivMod(toBig(a), toBig(b), new(big.Int))
	if b.Neg && rest.Sign() > 0 {
		quotient.Sub(quotient, big.NewInt(1))
		rest.Add(rest, toBig(b))
	}
	expect(t, "the quotient", q, e, quotient)
	expect(t, "the rest", r, e, rest)
}

// P1.4
func TestDiv(t *testing.T) {
	for _, c := range [][4]int{{7, -2, -4, -1}, {-7, 2, -4, 1}, {7, 2, 3, 1}, {-7, -2, 3, -1}, {6, -2, -3, 0}, {0, -5, 0, 0}, {1, 3, 0, 1}, {-1, 3, -1, 2}} {
		q, r, e := num.Div(num.Of(c[0]), num.Of(c[1]))
		if e != api.OK || !same(q, num.Of(c[2])) || !same(r, num.Of(c[3])) {
			t.Errorf("Div of %v: %v, %v, error %d", c, q, r, e)
		}
	}
	for _, a := range many() {
		for _, b := range many() {
			if !zero(b) {
				checkDiv(t, a, b)
			}
		}
		if q, r, e := num.Div(a, api.Int{}); e != api.ErrZero || !zero(q) || !zero(r) {
			t.Errorf("Div by 0: %v, %v, error %d", q, r, e)
		}
	}
}

// P1.5
func TestPow(t *testing.T) {
	if p, e := num.Pow(num.Of(2), 32); e != api.OK || !same(p, of(false, 0, 1)) {
		t.Errorf("Pow(2, 32): %v, error %d", p, e)
	}
	for _, a := range few() {
		for n := range 70 {
			p, e := num.Pow(a, n)
			expect(t, "Pow", p, e, new(big.Int).Exp(toBig(a), big.NewInt(int64(n)), nil))
		}
	}
	for _, c := range []struct {
		a    api.Int
		n    int
		want api.Errno
	}{
		{num.Of(2), 9599, api.OK}, {num.Of(-2), 9599, api.OK}, {num.Of(2), 9600, api.ErrLimit},
		{num.Of(3), 6056, api.OK}, {num.Of(3), 6057, api.ErrLimit}, {num.Of(3), 9600, api.ErrLimit},
		{num.Of(1), 9600, api.OK}, {num.Of(-1), 9599, api.OK}, {num.Of(0), 9600, api.OK}, {num.Of(0), 0, api.OK},
		{twoTo(4800, -1), 2, api.OK}, {twoTo(4800, 0), 2, api.ErrLimit}, {greatest(), 1, api.OK}, {greatest(), 0, api.OK}, {greatest(), 9600, api.ErrLimit},
		{num.Of(1), -1, api.ErrArg}, {num.Of(1), 9601, api.ErrArg}, {num.Of(2), 9601, api.ErrArg}, {num.Of(2), math.MinInt, api.ErrArg}, {num.Of(0), math.MaxInt, api.ErrArg},
	} {
		p, e := num.Pow(c.a, c.n)
		if e != c.want || e != api.OK && !zero(p) {
			t.Errorf("Pow(%v, %d): error %d, want %d", toBig(c.a), c.n, e, c.want)
		}
		if e == api.OK {
			expect(t, "Pow", p, e, new(big.Int).Exp(toBig(c.a), big.NewInt(int64(c.n)), nil))
		}
	}
}

// atMost reports whether the magnitude of x is at most that of a, or 1.
func atMost(x, a api.Int) bool {
	return toBig(x).CmpAbs(toBig(a)) <= 0 || toBig(x).CmpAbs(big.NewInt(1)) == 0
}

// checkGcd holds Gcd against its promise, and against the library's divisor.
func checkGcd(t *testing.T, a, b api.Int) {
	t.Helper()
	g, x, y, e := num.Gcd(a, b)
	absA, absB := new(big.Int).Abs(toBig(a)), new(big.Int).Abs(toBig(b))
	expect(t, "Gcd", g, e, new(big.Int).GCD(nil, nil, absA, absB))
	left, right := new(big.Int).Mul(toBig(a), toBig(x)), new(big.Int).Mul(toBig(b), toBig(y))
	if left.Add(left, right).Cmp(toBig(g)) != 0 {
		t.Errorf("Gcd(%v, %v): x %v and y %v do not give %v", toBig(a), toBig(b), toBig(x), toBig(y), toBig(g))
	}
	if !atMost(x, b) || !atMost(y, a) || num.Check(x) != api.OK || num.Check(y) != api.OK {
		t.Errorf("Gcd(%v, %v): x %v or y %v is too large, or not formed", toBig(a), toBig(b), toBig(x), toBig(y))
	}
}

// P1.6
func TestGcd(t *testing.T) {
	if g, _, _, e := num.Gcd(num.Of(12), num.Of(-18)); e != api.OK || !same(g, num.Of(6)) {
		t.Errorf("Gcd(12, -18): %v, error %d", g, e)
	}
	for a := -25; a <= 25; a++ {
		for b := -25; b <= 25; b++ {
			checkGcd(t, num.Of(a), num.Of(b))
		}
	}
	for _, a := range few() {
		for _, b := range many() {
			checkGcd(t, a, b)
			checkGcd(t, b, a)
		}
	}
	checkGcd(t, greatest(), twoTo(9599, 0))
	checkGcd(t, minus(greatest()), greatest())
	r := rand.New(rand.NewSource(5))
	checkGcd(t, mixed(r, 300), mixed(r, 300))
}

// checkRoot holds Root against its definition: the power of it is not above a, and that of one more is.
func checkRoot(t *testing.T, a api.Int, n int) {
	t.Helper()
	r, e := num.Root(a, n)
	power := new(big.Int).Exp(toBig(r), big.NewInt(int64(n)), nil)
	above := new(big.Int).Exp(new(big.Int).Add(toBig(r), big.NewInt(1)), big.NewInt(int64(n)), nil)
	if e != api.OK || num.Check(r) != api.OK || power.Cmp(toBig(a)) > 0 || above.Cmp(toBig(a)) <= 0 {
		t.Errorf("Root(%v, %d) is %v, error %d", toBig(a), n, toBig(r), e)
	}
}

// P1.7
func TestRoot(t *testing.T) {
	for _, c := range [][3]int{{26, 3, 2}, {27, 3, 3}, {-27, 3, -3}, {-26, 3, -3}, {-28, 3, -4}, {81, 4, 3}, {80, 4, 2}, {0, 2, 0}, {0, 7, 0}, {-5, 1, -5}, {-1, 99, -1}, {-2, 99, -2}, {1, 100, 1}} {
		r, e := num.Root(num.Of(c[0]), c[1])
		if e != api.OK || !same(r, num.Of(c[2])) {
			t.Errorf("Root(%d, %d) is %v, error %d", c[0], c[1], r, e)
		}
	}
	for a := range 1100 {
		for n := 1; n <= 11; n++ {
			checkRoot(t, num.Of(a), n)
			if n%2 == 1 {
				checkRoot(t, num.Of(-a), n)
			}
		}
	}
	for _, a := range many() {
		for n := 1; n <= 100; n++ {
			if !a.Neg || n%2 == 1 {
				checkRoot(t, a, n)
			} else if r, e := num.Root(a, n); e != api.ErrNone || !zero(r) {
				t.Errorf("Root(%v, %d): %v, error %d, want ErrNone", toBig(a), n, r, e)
			}
		}
	}
	for _, n := range []int{0, -1, 101, 102, math.MinInt, math.MaxInt} {
		for _, a := range []int{0, 5, -5} {
			if r, e := num.Root(num.Of(a), n); e != api.ErrArg || !zero(r) {
				t.Errorf("Root(%d, %d): %v, error %d, want ErrArg", a, n, r, e)
			}
		}
	}
}

// P1.8
func TestBits(t *testing.T) {
	for _, c := range []struct {
		a    api.Int
		want int
	}{{num.Of(0), 0}, {num.Of(1), 1}, {num.Of(-1), 1}, {num.Of(255), 8}, {num.Of(-256), 9}, {twoTo(32, -1), 32}, {twoTo(32, 0), 33}, {greatest(), 9600}} {
		if n, e := num.Bits(c.a); n != c.want || e != api.OK {
			t.Errorf("Bits(%v) is %d, error %d, want %d", toBig(c.a), n, e, c.want)
		}
	}
	for _, a := range many() {
		if n, e := num.Bits(a); n != toBig(a).BitLen() || e != api.OK {
			t.Errorf("Bits(%v) is %d, error %d", toBig(a), n, e)
		}
	}
}

// P1.8
func TestOfAndTo(t *testing.T) {
	if a := num.Of(-5); !same(a, of(true, 5)) {
		t.Errorf("Of(-5) is %v", a)
	}
	for _, n := range []int{0, 1, -1, 7, 1<<32 - 1, 1 << 32, -1 << 32, 1<<63 - 1, -1<<63 + 1, -1 << 63} {
		a := num.Of(n)
		if !same(a, fromBig(big.NewInt(int64(n)))) {
			t.Errorf("Of(%d) is %v", n, a)
		}
		if back, e := num.To(a); back != n || e != api.OK {
			t.Errorf("To of Of(%d) is %d, error %d", n, back, e)
		}
	}
	for _, a := range []api.Int{twoTo(63, 0), minus(twoTo(63, 1)), twoTo(64, -1), minus(twoTo(64, -1)), twoTo(64, 0), minus(twoTo(64, 5)), twoTo(96, 0), greatest(), minus(greatest())} {
		if n, e := num.To(a); n != 0 || e != api.ErrLimit {
			t.Errorf("To(%v) is %d, error %d, want ErrLimit", toBig(a), n, e)
		}
	}
}

// P1.9
func TestText(t *testing.T) {
	for _, c := range []struct {
		n, base int
		want    string
	}{{255, 16, "ff"}, {-10, 2, "-1010"}, {0, 36, "0"}, {0, 2, "0"}, {35, 36, "z"}, {-1295, 36, "-zz"}, {1000000000, 10, "1000000000"}} {
		if s, e := num.Text(num.Of(c.n), c.base); s != c.want || e != api.OK {
			t.Errorf("Text(%d, %d) is %q, error %d", c.n, c.base, s, e)
		}
	}
	for _, a := range many() {
		for base := 2; base <= 36; base++ {
			s, e := num.Text(a, base)
			if s != toBig(a).Text(base) || e != api.OK {
				t.Errorf("Text(%v, %d) is %q, error %d", toBig(a), base, s, e)
			}
		}
	}
	for _, base := range []int{1, 0, -2, 37, 256, math.MinInt, math.MaxInt} {
		if s, e := num.Text(num.Of(5), base); s != "" || e != api.ErrArg {
			t.Errorf("Text to base %d: %q, error %d, want ErrArg", base, s, e)
		}
		for _, text := range []string{"1", "", "?", "-"} {
			if a, e := num.Parse(text, base); !zero(a) || e != api.ErrArg {
				t.Errorf("Parse(%q, %d): %v, error %d, want ErrArg", text, base, a, e)
			}
		}
	}
}

// P1.9
func TestParse(t *testing.T) {
	for _, c := range []struct {
		s    string
		base int
		want int
	}{{"-0A", 16, -10}, {"-0a", 16, -10}, {"0", 2, 0}, {"-0", 2, 0}, {"-000", 10, 0}, {"zZ", 36, 1295}, {"000000000000000000000000000000000000000000000000007", 8, 7}, {"fFfFfFfF", 16, 1<<32 - 1}, {"-9223372036854775808", 10, -1 << 63}} {
		if a, e := num.Parse(c.s, c.base); e != api.OK || !same(a, num.Of(c.want)) {
			t.Errorf("Parse(%q, %d): %v, error %d", c.s, c.base, a, e)
		}
	}
	for _, c := range []struct {
		s    string
		base int
	}{{"-", 10}, {"", 10}, {"12", 2}, {"+1", 10}, {"--1", 10}, {"1-", 10}, {" 1", 10}, {"1 ", 10}, {"1_0", 10}, {"g", 16}, {"G", 16}, {"a", 10}, {"A", 10}, {"0x1", 16}, {"1.0", 10}, {"{", 36}, {"[", 36}, {"@", 36}, {"`", 36}, {"/", 36}, {":", 36}, {"1\x00", 36}, {"\xff", 36}, {"é", 36}} {
		if a, e := num.Parse(c.s, c.base); e != api.ErrForm || !zero(a) {
			t.Errorf("Parse(%q, %d): %v, error %d, want ErrForm", c.s, c.base, a, e)
		}
	}
	for base := 2; base <= 36; base++ {
		for c := range 256 {
			s := string([]byte{byte(c)})
			want, ok := new(big.Int).SetString(s, base)
			a, e := num.Parse(s, base)
			if ok && (e != api.OK || !same(a, fromBig(want))) || !ok && e != api.ErrForm {
				t.Errorf("Parse(%q, %d): %v, error %d", s, base, a, e)
			}
		}
	}
}

// P1.9: a text may be long, but not for a number with too many limbs; its form is looked at first.
func TestParseLimit(t *testing.T) {
	for base := 2; base <= 36; base++ {
		name := fmt.Sprintf("to base %d", base)
		most := toBig(greatest())
		zeros := strings.Repeat("0", 10000)
		a, e := num.Parse("-"+zeros+most.Text(base), base)
		expect(t, name, a, e, new(big.Int).Neg(most))
		over := new(big.Int).Add(most, big.NewInt(1))
		a, e = num.Parse(zeros+over.Text(base), base)
		expect(t, name, a, e, over)
		if a, e := num.Parse(over.Text(base)+zeros+"?", base); e != api.ErrForm || !zero(a) {
			t.Errorf("%s: error %d, want ErrForm", name, e)
		}
	}
	if a, e := num.Parse("1"+strings.Repeat("0", 5000000), 10); e != api.ErrLimit || !zero(a) {
		t.Errorf("error %d, want ErrLimit", e)
	}
}
