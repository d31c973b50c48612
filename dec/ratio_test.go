package dec_test

import (
	"math/big"
	"math/rand"
	"testing"

	"zermelo/api"
	"zermelo/dec"
	"zermelo/num"
)

// expectRatio holds Ratio against the library, and CheckRatio against what it returns.
func expectRatio(t *testing.T, n, d *big.Int) {
	t.Helper()
	v, c, e := dec.Ratio(fromBig(n), fromBig(d))
	call := "Ratio of " + short(n) + " and " + short(d)
	want, fits := rounded(n, d, api.MaxScale)
	expect(t, call, v, e, want, fits)
	if !fits {
		if !sameInt(c.Q, api.Int{}) || !sameInt(c.Rest, api.Int{}) {
			t.Errorf("%s: a certificate together with an error", call)
		}
		return
	}
	units := new(big.Int).Mul(n, tenTo(api.MaxScale))
	q := nearest(units, d)
	rest := new(big.Int).Sub(units, new(big.Int).Mul(q, d))
	if !sameInt(c.Q, fromBig(q)) || !sameInt(c.Rest, fromBig(rest)) {
		t.Errorf("%s: Q %v, Rest %v; want %v, %v", call, short(toBig(c.Q)), short(toBig(c.Rest)), short(q), short(rest))
	}
	if e := dec.CheckRatio(fromBig(n), fromBig(d), v, c); e != api.OK {
		t.Errorf("%s: CheckRatio is %d", call, e)
	}
	refuseOthers(t, call, n, d, v, c)
}

// refuseOthers tells if CheckRatio accepts another Q, Rest or value, also where Q times d and Rest added are right.
func refuseOthers(t *testing.T, call string, n, d *big.Int, v api.Val, c api.DecCert) {
	t.Helper()
	q, rest := toBig(c.Q), toBig(c.Rest)
	plus := func(a *big.Int, n int64) api.Int { return fromBig(new(big.Int).Add(a, big.NewInt(n))) }
	next, _ := decimal(toBig(plus(q, 1)), api.MaxScale)
	last, _ := decimal(toBig(plus(q, -1)), api.MaxScale)
	for i, x := range []struct {
		v api.Val
		c api.DecCert
	}{
		{v, api.DecCert{Q: plus(q, 1), Rest: c.Rest}},
		{v, api.DecCert{Q: plus(q, -1), Rest: c.Rest}},
		{v, api.DecCert{Q: c.Q, Rest: plus(rest, 1)}},
		{v, api.DecCert{Q: c.Q, Rest: plus(rest, -1)}},
		{next, c}, {last, c},
		{next, api.DecCert{Q: plus(q, 1), Rest: c.Rest}},
		{next, api.DecCert{Q: plus(q, 1), Rest: fromBig(new(big.Int).Sub(rest, d))}},
		{last, api.DecCert{Q: plus(q, -1), Rest: fromBig(new(big.Int).Add(rest, d))}},
		{v, api.DecCert{Q: fromBig(new(big.Int).Neg(q)), Rest: fromBig(new(big.Int).Neg(rest))}},
	} {
		if sameInt(x.c.Q, c.Q) && sameInt(x.c.Rest, c.Rest) && same(x.v, v) {
			continue // 0 and its negative number
		}
		if e := dec.CheckRatio(fromBig(n), fromBig(d), x.v, x.c); e != api.ErrProof {
			t.Errorf("%s: CheckRatio of another certificate (%d) is %d, want ErrProof", call, i, e)
		}
	}
}

// P2.6, P2.10
func TestRatio(t *testing.T) {
	for n := int64(-30); n <= 30; n++ {
		for d := int64(-30); d <= 30; d++ {
			if d != 0 {
				expectRatio(t, big.NewInt(n), big.NewInt(d))
			}
		}
	}
	// These lie midway between two decimals.
	for n := int64(-9); n <= 9; n++ {
		for _, sign := range []int64{2, -2} {
			expectRatio(t, big.NewInt(n), new(big.Int).Mul(big.NewInt(sign), tenTo(api.MaxScale)))
		}
	}
	r := rand.New(rand.NewSource(10))
	for range 1500 {
		n := new(big.Int).Rand(r, twoTo(1+r.Intn(1500), 0))
		d := new(big.Int).Add(new(big.Int).Rand(r, twoTo(1+r.Intn(1500), 0)), big.NewInt(1))
		if r.Intn(2) == 0 {
			n.Neg(n)
		}
		if r.Intn(2) == 0 {
			d.Neg(d)
		}
		expectRatio(t, n, d)
	}
}

// P2.6: fractions of integers of all sizes: nothing within is too large.
func TestLargeRatios(t *testing.T) {
	top := twoTo(32*api.MaxBig, -1)
	numerator := twoTo(32*290, -1)
	for _, n := range []*big.Int{big.NewInt(0), big.NewInt(1), big.NewInt(-1), numerator, new(big.Int).Neg(numerator), twoTo(32*280, 1), most()} {
		for _, d := range []*big.Int{big.NewInt(1), big.NewInt(-1), top, new(big.Int).Neg(top), twoTo(32*api.MaxBig-1, 0), numerator, twoTo(32*280, 5), tenTo(2000)} {
			expectRatio(t, n, d)
		}
	}
	v, c, e := dec.Ratio(num.Of(1), num.Of(4))
	expect(t, "Ratio of 1 and 4", v, e, of(t, "0.25"), true)
	if !sameInt(c.Q, fromBig(new(big.Int).Mul(big.NewInt(25), tenTo(18)))) || !sameInt(c.Rest, api.Int{}) {
		t.Errorf("the certificate of 1 / 4 is %v, %v", toBig(c.Q), toBig(c.Rest))
	}
}

// P2.6: the errors of Ratio and CheckRatio, in their order.
func TestRatioErrors(t *testing.T) {
	one, zero, long := num.Of(1), api.Int{}, fromBig(twoTo(32*290, 0))
	quarter, c, _ := dec.Ratio(num.Of(1), num.Of(4))
	type pair struct {
		n, d api.Int
		want api.Errno
	}
	l := []pair{{one, zero, api.ErrZero}, {zero, zero, api.ErrZero}, {long, zero, api.ErrZero}, {long, one, api.ErrLimit}, {long, long, api.ErrLimit}}
	for _, bad := range badInts() {
		l = append(l, pair{bad, one, api.ErrForm}, pair{one, bad, api.ErrForm}, pair{bad, zero, api.ErrForm}, pair{long, bad, api.ErrForm})
	}
	for _, x := range l {
		v, got, e := dec.Ratio(x.n, x.d)
		refused(t, "Ratio", v, e, x.want)
		if !sameInt(got.Q, api.Int{}) || !sameInt(got.Rest, api.Int{}) {
			t.Error("Ratio returns a certificate together with an error")
		}
		for _, v := range []api.Val{quarter, {}} {
			for _, c := range []api.DecCert{c, {}, {Q: badInts()[0]}} {
				if e := dec.CheckRatio(x.n, x.d, v, c); e != x.want {
					t.Errorf("CheckRatio is %d, want %d", e, x.want)
				}
			}
		}
	}
	v, _, e := dec.Ratio(fromBig(most()), one)
	refused(t, "a fraction that is too large", v, e, api.ErrLimit)
	if e := dec.CheckRatio(fromBig(most()), one, quarter, c); e != api.ErrProof {
		t.Errorf("CheckRatio of a fraction that is too large is %d, want ErrProof", e)
	}
}

// P2.6, P2.10: certificates of other forms.
func TestRefusedCertificates(t *testing.T) {
	top, half := fromBig(twoTo(32*api.MaxBig, -1)), fromBig(twoTo(32*api.MaxBig-1, 0))
	for _, x := range [][2]int{{1, 4}, {0, 1}, {2, 3}, {-2, 3}, {7, -1}} {
		n, d := num.Of(x[0]), num.Of(x[1])
		v, c, _ := dec.Ratio(n, d)
		for _, bad := range notDecimals() {
			if e := dec.CheckRatio(n, d, bad, c); e != api.ErrProof {
				t.Errorf("CheckRatio of %s is %d, want ErrProof", told(bad), e)
			}
		}
		l := []api.DecCert{{Q: top, Rest: c.Rest}, {Q: top, Rest: top}, {Q: c.Q, Rest: top}, {Q: half, Rest: half}}
		for _, bad := range badInts() {
			l = append(l, api.DecCert{Q: bad, Rest: c.Rest}, api.DecCert{Q: c.Q, Rest: bad}, api.DecCert{Q: bad, Rest: bad})
		}
		for i, other := range l {
			if e := dec.CheckRatio(n, d, v, other); e != api.ErrProof {
				t.Errorf("CheckRatio of %v with another certificate (%d) is %d, want ErrProof", x, i, e)
			}
		}
		for _, e := range []api.Errno{dec.CheckRatio(n, top, v, api.DecCert{Q: num.Of(1), Rest: top}), dec.CheckRatio(n, top, v, api.DecCert{Q: top, Rest: half}), dec.CheckRatio(n, top, v, api.DecCert{Q: num.Of(1), Rest: half})} {
			if e != api.ErrProof {
				t.Errorf("CheckRatio with large integers is %d, want ErrProof", e)
			}
		}
	}
	// The same number with another value: zeros behind, no places, an integer.
	v, c, _ := dec.Ratio(num.Of(1), num.Of(4))
	for _, other := range []api.Val{raw(big.NewInt(250), 3), {Kind: api.VInt, Int: num.Of(25), N: 2}, {Kind: api.VDec, N: 2, Int: num.Of(25), Str: " "}} {
		if e := dec.CheckRatio(num.Of(1), num.Of(4), other, c); e != api.ErrProof {
			t.Errorf("CheckRatio of %s is %d, want ErrProof", told(other), e)
		}
	}
	// The same certificate for a fraction of other integers.
	if e := dec.CheckRatio(num.Of(2), num.Of(8), v, c); e != api.OK {
		t.Errorf("CheckRatio of 2 / 8 is %d", e)
	}
	for _, x := range [][2]int{{1, 3}, {1, 5}, {-1, 4}, {1, -4}, {0, 4}} {
		if e := dec.CheckRatio(num.Of(x[0]), num.Of(x[1]), v, c); e != api.ErrProof {
			t.Errorf("CheckRatio of %v with 0.25 is %d, want ErrProof", x, e)
		}
	}
}
