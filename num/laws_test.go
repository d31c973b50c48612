package num_test

import (
	"math/big"
	"math/rand"
	"slices"
	"strings"
	"testing"

	"zermelo/api"
	"zermelo/num"
)

// must returns a result, and ends the test if there is an error instead.
func must(t *testing.T) func(a api.Int, e api.Errno) api.Int {
	return func(a api.Int, e api.Errno) api.Int {
		t.Helper()
		if e != api.OK {
			t.Fatalf("error %d", e)
		}
		return a
	}
}

// equal tells if two integers that have to be equal are not.
func equal(t *testing.T, law string, a, b api.Int) {
	t.Helper()
	if !same(a, b) || num.Compare(a, b) != 0 {
		t.Errorf("%s: %v is not %v", law, toBig(a), toBig(b))
	}
}

// large are integers with many limbs, but not so many that a product of two of them is too large.
func large() []api.Int {
	r := rand.New(rand.NewSource(6))
	return []api.Int{mixed(r, 90), mixed(r, 110), mixed(r, 149)}
}

// P1.10
func TestRings(t *testing.T) {
	ok := must(t)
	for _, a := range append(few(), large()...) {
		for _, b := range append(few(), large()...) {
			sum, product := ok(num.Add(a, b)), ok(num.Mul(a, b))
			equal(t, "a + b = b + a", sum, ok(num.Add(b, a)))
			equal(t, "a b = b a", product, ok(num.Mul(b, a)))
			equal(t, "(a + b) - b = a", ok(num.Sub(sum, b)), a)
			equal(t, "(a - b) + b = a", ok(num.Add(ok(num.Sub(a, b)), b)), a)
			for _, c := range few() {
				if len(product.Abs)+len(c.Abs) > api.MaxBig {
					continue
				}
				equal(t, "(a + b) + c = a + (b + c)", ok(num.Add(sum, c)), ok(num.Add(a, ok(num.Add(b, c)))))
				equal(t, "(a b) c = a (b c)", ok(num.Mul(product, c)), ok(num.Mul(a, ok(num.Mul(b, c)))))
				equal(t, "(a + b) c = a c + b c", ok(num.Mul(sum, c)), ok(num.Add(ok(num.Mul(a, c)), ok(num.Mul(b, c)))))
			}
		}
	}
}

// isRest reports whether r is 0, or has the sign of b and a smaller magnitude.
func isRest(r, b api.Int) bool {
	return zero(r) || r.Neg == b.Neg && toBig(r).CmpAbs(toBig(b)) < 0
}

// P1.11
func TestDivisions(t *testing.T) {
	ok := must(t)
	for _, a := range many() {
		for _, b := range many() {
			if zero(b) {
				continue
			}
			q, r, e := num.Div(a, b)
			if e != api.OK || !isRest(r, b) {
				t.Errorf("Div(%v, %v): the rest %v, error %d", toBig(a), toBig(b), toBig(r), e)
			}
			equal(t, "q b + r = a", fromBig(new(big.Int).Add(new(big.Int).Mul(toBig(q), toBig(b)), toBig(r))), a)
			// Every other quotient leaves a rest that is another one by a multiple of b: none of the nearest is a rest.
			x, y := toBig(r), toBig(b)
			if isRest(fromBig(new(big.Int).Add(x, y)), b) || isRest(fromBig(new(big.Int).Sub(x, y)), b) {
				t.Errorf("Div(%v, %v): another pair would do", toBig(a), toBig(b))
			}
		}
		for _, n := range []uint{0, 1, 31, 32, 33, 64, 100, 4799, 9599} {
			q, r, e := num.Div(a, twoTo(n, 0))
			expect(t, "a shift", q, e, new(big.Int).Rsh(toBig(a), n))
			lower := new(big.Int).And(toBig(a), toBig(twoTo(n, -1)))
			expect(t, "the bits below", r, e, lower)
		}
	}
	for _, a := range append(few(), large()...) {
		for _, b := range large() {
			q, r, e := num.Div(ok(num.Mul(a, b)), b)
			if e != api.OK || !zero(r) {
				t.Errorf("a product has the rest %v, error %d", toBig(r), e)
			}
			equal(t, "a b / b = a", q, a)
		}
	}
}

// divides reports whether d divides a.
func divides(t *testing.T, d, a api.Int) bool {
	t.Helper()
	if zero(d) {
		return zero(a)
	}
	_, r, e := num.Div(a, d)
	return e == api.OK && zero(r)
}

// P1.12
func TestDivisors(t *testing.T) {
	ok := must(t)
	for _, a := range few() {
		for _, b := range few() {
			g, _, _, e := num.Gcd(a, b)
			if e != api.OK || g.Neg || !divides(t, g, a) || !divides(t, g, b) {
				t.Errorf("Gcd(%v, %v) is %v, error %d", toBig(a), toBig(b), toBig(g), e)
			}
			for d := 1; d < 200; d++ {
				if divides(t, num.Of(d), a) && divides(t, num.Of(d), b) && !divides(t, num.Of(d), g) {
					t.Errorf("%d divides %v and %v, but not %v", d, toBig(a), toBig(b), toBig(g))
				}
			}
			for _, c := range append(few(), large()...) {
				h, _, _, e := num.Gcd(ok(num.Mul(a, c)), ok(num.Mul(b, c)))
				if e != api.OK || !divides(t, c, h) {
					t.Errorf("Gcd of products with %v: %v, error %d", toBig(c), toBig(h), e)
				}
			}
		}
	}
}

// P1.13
func TestPowersAndRoots(t *testing.T) {
	ok := must(t)
	for _, a := range few() {
		for m := range 12 {
			for n := range 12 {
				product := ok(num.Mul(ok(num.Pow(a, m)), ok(num.Pow(a, n))))
				equal(t, "a^m a^n = a^(m+n)", product, ok(num.Pow(a, m+n)))
			}
		}
		for n := 1; n <= 30; n++ {
			if !a.Neg || n%2 == 1 {
				equal(t, "the root of a^n is a", ok(num.Root(ok(num.Pow(a, n)), n)), a)
			}
		}
	}
	for _, a := range many() {
		for _, n := range []int{1, 2, 3, 4, 7, 10, 99, 100} {
			if a.Neg && n%2 == 0 {
				continue
			}
			r := ok(num.Root(a, n))
			checkRoot(t, a, n)
			if a.Neg || zero(a) {
				continue // the power of a negative root may have too many limbs
			}
			below := ok(num.Root(ok(num.Sub(ok(num.Pow(r, n)), num.Of(1))), n))
			equal(t, "the root of r^n - 1 is r - 1", below, ok(num.Sub(r, num.Of(1))))
		}
	}
}

// P1.14
func TestTextsAndOrder(t *testing.T) {
	for base := 2; base <= 36; base++ {
		texts := map[int][]string{} // by length, of numbers that are not negative
		for _, a := range many() {
			s, e := num.Text(a, base)
			back, f := num.Parse(s, base)
			if e != api.OK || f != api.OK {
				t.Fatalf("to base %d: errors %d, %d", base, e, f)
			}
			equal(t, "Parse of Text", back, a)
			if !a.Neg {
				texts[len(s)] = append(texts[len(s)], s)
			}
			loose := strings.ToUpper(strings.Replace("0000"+s, "0000-", "-0000", 1))
			if again, f := num.Parse(loose, base); f != api.OK || !same(again, a) {
				t.Errorf("Parse(%q, %d): %v, error %d", loose, base, toBig(again), f)
			} else if tight, _ := num.Text(again, base); tight != s {
				t.Errorf("Text of Parse(%q, %d) is %q", loose, base, tight)
			}
		}
		for _, l := range texts {
			for _, s := range l {
				for _, u := range l {
					a, _ := num.Parse(s, base)
					b, _ := num.Parse(u, base)
					if num.Compare(a, b) != strings.Compare(s, u) {
						t.Errorf("to base %d, %q and %q are ordered otherwise than their numbers", base, s, u)
					}
				}
			}
		}
	}
}

// P1.15
func TestOrder(t *testing.T) {
	ok := must(t)
	l := append(few(), large()...)
	slices.SortFunc(l, num.Compare)
	for i, a := range l {
		for j, b := range l {
			got := num.Compare(a, b)
			if got != -num.Compare(b, a) || (got == 0) != same(a, b) || i < j && got > 0 || i > j && got < 0 {
				t.Errorf("Compare(%v, %v) is %d, at %d and %d of a sorted list", toBig(a), toBig(b), got, i, j)
			}
			for _, c := range l {
				if num.Compare(ok(num.Add(a, c)), ok(num.Add(b, c))) != got {
					t.Errorf("adding %v changes the order of %v and %v", toBig(c), toBig(a), toBig(b))
				}
			}
		}
	}
}
