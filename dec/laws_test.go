package dec_test

import (
	"math/big"
	"slices"
	"strings"
	"testing"

	"zermelo/api"
	"zermelo/dec"
)

// equal tells if two decimals that have to be equal are not.
func equal(t *testing.T, law string, a, b api.Val) {
	t.Helper()
	if c, e := dec.Compare(a, b); e != api.OK || c != 0 || !same(a, b) {
		t.Errorf("%s: %s is not %s", law, told(a), told(b))
	}
}

// compared returns the order of two decimals.
func compared(t *testing.T, a, b api.Val) int {
	t.Helper()
	return must[int](t)(dec.Compare(a, b))
}

// P2.8
func TestSumsAreExact(t *testing.T) {
	ok := must[api.Val](t)
	for _, a := range few(t) {
		for _, b := range few(t) {
			sum := ok(dec.Add(a, b))
			equal(t, "a + b = b + a", sum, ok(dec.Add(b, a)))
			equal(t, "(a + b) - b = a", ok(dec.Sub(sum, b)), a)
			equal(t, "(a - b) + b = a", ok(dec.Add(ok(dec.Sub(a, b)), b)), a)
			equal(t, "a - b = a + -b", ok(dec.Sub(a, b)), ok(dec.Add(a, ok(dec.Neg(b)))))
			for _, c := range few(t) {
				equal(t, "(a + b) + c = a + (b + c)", ok(dec.Add(sum, c)), ok(dec.Add(a, ok(dec.Add(b, c)))))
			}
		}
	}
}

// P2.8
func TestProductsOfFewPlacesAreExact(t *testing.T) {
	ok := must[api.Val](t)
	for _, a := range few(t) {
		for _, b := range few(t) {
			product := ok(dec.Mul(a, b))
			equal(t, "a b = b a", product, ok(dec.Mul(b, a)))
			if a.N+b.N > api.MaxScale {
				continue
			}
			if ratOf(product).Cmp(new(big.Rat).Mul(ratOf(a), ratOf(b))) != 0 {
				t.Errorf("the product of %s and %s is %s", told(a), told(b), told(product))
			}
			for _, c := range few(t) {
				if a.N+c.N > api.MaxScale {
					continue
				}
				equal(t, "a (b + c) = a b + a c", ok(dec.Mul(a, ok(dec.Add(b, c)))), ok(dec.Add(product, ok(dec.Mul(a, c)))))
			}
		}
	}
}

// isNearest tells if a decimal beside got is nearer to an exact number, or as near, while the last digit of got is odd.
func isNearest(t *testing.T, call string, got api.Val, exact *big.Rat) {
	t.Helper()
	unit := new(big.Rat).SetFrac(big.NewInt(1), tenTo(api.MaxScale))
	far := func(r *big.Rat) *big.Rat {
		d := new(big.Rat).Sub(r, exact)
		return d.Abs(d)
	}
	even := got.N < api.MaxScale || toBig(got.Int).Bit(0) == 0
	for _, beside := range []*big.Rat{new(big.Rat).Add(ratOf(got), unit), new(big.Rat).Sub(ratOf(got), unit)} {
		if c := far(beside).Cmp(far(ratOf(got))); c < 0 || c == 0 && !even {
			t.Errorf("%s: %v is as near as %s, or nearer", call, beside, told(got))
		}
	}
}

// P2.9
func TestNearest(t *testing.T) {
	for _, o := range binaries()[2:] {
		for _, a := range many(t) {
			for _, b := range many(t) {
				got, e := o.do(a, b)
				if e == api.OK {
					isNearest(t, o.name, got, o.want(ratOf(a), ratOf(b)))
				}
			}
		}
	}
	half := new(big.Rat).SetFrac(big.NewInt(1), new(big.Int).Mul(big.NewInt(2), tenTo(api.MaxScale)))
	for _, a := range many(t) {
		got, e := dec.Sqrt(a)
		if e != api.OK {
			continue
		}
		// The root lies within half a unit of the result.
		above, below := new(big.Rat).Add(ratOf(got), half), new(big.Rat).Sub(ratOf(got), half)
		if above.Mul(above, above).Cmp(ratOf(a)) < 0 || below.Sign() > 0 && below.Mul(below, below).Cmp(ratOf(a)) > 0 {
			t.Errorf("the root of %s is not near %s", told(a), told(got))
		}
	}
}

// sorted returns the decimals of many in their order.
func sorted(t *testing.T) []api.Val {
	t.Helper()
	l := many(t)
	slices.SortFunc(l, func(a, b api.Val) int { return compared(t, a, b) })
	return l
}

// P2.11
func TestOrder(t *testing.T) {
	l := sorted(t)
	for i, a := range l {
		for j, b := range l {
			c := compared(t, a, b)
			if c != -compared(t, b, a) || i < j && c > 0 || i > j && c < 0 {
				t.Errorf("Compare of %s and %s is %d, at %d and %d of a sorted list", told(a), told(b), c, i, j)
			}
			if (c == 0) != same(a, b) {
				t.Errorf("Compare of %s and %s is %d", told(a), told(b), c)
			}
		}
	}
}

// keeps tells if two results are ordered otherwise than the decimals of which they are made.
func keeps(t *testing.T, call string, order int, x, y api.Val, e, f api.Errno, strictly bool) {
	t.Helper()
	if e != api.OK || f != api.OK {
		return
	}
	if c := compared(t, x, y); c != order && (c != 0 || strictly) {
		t.Errorf("%s changes an order: %s and %s are %d, not %d", call, told(x), told(y), c, order)
	}
}

// P2.11: what keeps the order of neighbours keeps all of it.
func TestOrderIsKept(t *testing.T) {
	l := sorted(t)
	for i, b := range l[1:] {
		a := l[i]
		order := compared(t, a, b)
		for _, c := range many(t) {
			x, e := dec.Add(a, c)
			y, f := dec.Add(b, c)
			keeps(t, "a sum", order, x, y, e, f, true)
			if !c.Int.Neg {
				x, e = dec.Mul(a, c)
				y, f = dec.Mul(b, c)
				keeps(t, "a product", order, x, y, e, f, false)
			}
		}
		for places := range api.MaxScale + 1 {
			x, e := dec.Round(a, places)
			y, f := dec.Round(b, places)
			keeps(t, "Round", order, x, y, e, f, false)
		}
		for _, do := range []func(api.Val) (api.Int, api.Errno){dec.Fix, dec.Floor, dec.Ceil} {
			n, e := do(a)
			m, f := do(b)
			if c := toBig(n).Cmp(toBig(m)); e != api.OK || f != api.OK || c != 0 && c != order {
				t.Errorf("the integers of %s and %s are %s and %s", told(a), told(b), short(toBig(n)), short(toBig(m)))
			}
		}
	}
}

// P2.12
func TestIntegerLaws(t *testing.T) {
	ok, whole := must[api.Val](t), must[api.Int](t)
	for _, a := range many(t) {
		floor, ceil, fix := toBig(whole(dec.Floor(a))), toBig(whole(dec.Ceil(a))), toBig(whole(dec.Fix(a)))
		x := ratOf(a)
		if next := new(big.Int).Add(floor, big.NewInt(1)); new(big.Rat).SetInt(floor).Cmp(x) > 0 || new(big.Rat).SetInt(next).Cmp(x) <= 0 {
			t.Errorf("the Floor of %s is %v", told(a), floor)
		}
		if other := toBig(whole(dec.Floor(ok(dec.Neg(a))))); ceil.Cmp(new(big.Int).Neg(other)) != 0 {
			t.Errorf("the Ceil of %s is %v, the Floor of the negative number %v", told(a), ceil, other)
		}
		nearer := floor
		if ceil.CmpAbs(floor) < 0 {
			nearer = ceil
		}
		if fix.Cmp(nearer) != 0 {
			t.Errorf("the Fix of %s is %v", told(a), fix)
		}
		round, e := dec.Round(a, 0)
		if e != api.OK {
			continue
		}
		if r := ratOf(round); r.Cmp(new(big.Rat).SetInt(floor)) != 0 && r.Cmp(new(big.Rat).SetInt(ceil)) != 0 {
			t.Errorf("Round of %s is %s", told(a), told(round))
		}
		for _, n := range []*big.Int{floor, ceil} {
			b, e := dec.Make(fromBig(n), 0)
			if e != api.OK {
				continue
			}
			for _, do := range []func(api.Val) (api.Int, api.Errno){dec.Fix, dec.Floor, dec.Ceil} {
				if !sameInt(whole(do(b)), fromBig(n)) {
					t.Errorf("the integers of Make of %v are other ones", n)
				}
			}
		}
	}
}

// P2.13
func TestTextLaws(t *testing.T) {
	ok, text := must[api.Val](t), must[string](t)
	for _, a := range many(t) {
		s := text(dec.Text(a))
		equal(t, "Parse of Text", ok(dec.Parse(s)), a)
		digits, minus := strings.CutPrefix(s, "-")
		for _, more := range [][2]string{{"", "0"}, {"0", ""}, {"00", "000"}} {
			loose := more[0] + digits + more[1]
			if minus {
				loose = "-" + loose
			}
			if tight := text(dec.Text(ok(dec.Parse(loose)))); tight != s {
				t.Errorf("Text of Parse of %q is %q", loose, tight)
			}
		}
	}
	if s := text(dec.Text(ok(dec.Parse("-00.00")))); s != "0.0" {
		t.Errorf("Text of Parse of -00.00 is %q", s)
	}
}
