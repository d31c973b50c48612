package setop

import (
	"slices"
	"strings"

	"zermelo/api"
	"zermelo/dec"
	"zermelo/num"
	"zermelo/val"
)

// binary is an operation of two operands. What it takes as the second one depends on the Kind of the first one.
type binary struct {
	takes  kinds
	beside func(kind int) kinds
	work   func(a, b api.Val) api.Val
}

// binaries returns the operations of two operands, by number.
func binaries() map[int]binary {
	return map[int]binary{
		api.BiAdd:   {ints | decs | strs | tups | sets, alike, sum},
		api.BiSub:   {ints | decs | sets, alike, difference},
		api.BiMul:   {ints | decs | strs | tups | sets, factors, product},
		api.BiDiv:   {decs, alike, quotient},
		api.BiQuo:   {ints, alike, func(a, b api.Val) api.Val { q, _ := floored(a, b); return q }},
		api.BiMod:   {ints | sets, alike, remainder},
		api.BiPow:   {ints | decs, only(ints), power},
		api.BiEq:    {values | oms, only(values | oms), ordered(func(order int) bool { return order == 0 })},
		api.BiNe:    {values | oms, only(values | oms), ordered(func(order int) bool { return order != 0 })},
		api.BiLt:    {ints | decs | strs, alike, ordered(func(order int) bool { return order < 0 })},
		api.BiLe:    {ints | decs | strs, alike, ordered(func(order int) bool { return order <= 0 })},
		api.BiGt:    {ints | decs | strs, alike, ordered(func(order int) bool { return order > 0 })},
		api.BiGe:    {ints | decs | strs, alike, ordered(func(order int) bool { return order >= 0 })},
		api.BiIn:    {values, only(strs | tups | sets), func(a, b api.Val) api.Val { return truth(has(b, a)) }},
		api.BiNotin: {values, only(strs | tups | sets), func(a, b api.Val) api.Val { return truth(!has(b, a)) }},
		api.BiSubs:  {sets, alike, func(a, b api.Val) api.Val { return truth(must(val.Within(a, b))) }},
		api.BiIncs:  {sets, alike, func(a, b api.Val) api.Val { return truth(must(val.Within(b, a))) }},
		api.BiWith:  {tups | sets, only(values), with},
		api.BiLess:  {sets, only(values), func(a, b api.Val) api.Val { return must(val.Less(a, b)) }},
		api.BiLessf: {sets, only(values), func(a, b api.Val) api.Val { return withImage(a, b, nil) }},
		api.BiNpow:  {sets, only(ints), subsetsWith},
		api.BiMax:   {ints | decs | strs, alike, greater},
		api.BiMin:   {ints | decs | strs, alike, lesser},
		api.BiAnd:   {bools, alike, func(a, b api.Val) api.Val { return truth(a.N == 1 && b.N == 1) }},
		api.BiOr:    {bools, alike, func(a, b api.Val) api.Val { return truth(a.N == 1 || b.N == 1) }},
	}
}

// alike says that the second operand is of the Kind of the first one.
func alike(kind int) kinds { return 1 << kind }

// only says that the second operand is of some kinds, whatever the first one is.
func only(takes kinds) func(kind int) kinds {
	return func(int) kinds { return takes }
}

// factors says what can be multiplied: an integer also repeats a string or a tuple.
func factors(kind int) kinds {
	switch kind {
	case api.VInt:
		return ints | strs | tups
	case api.VStr, api.VTup:
		return ints
	}
	return alike(kind)
}

// ordered returns the operation that says whether the order of two values is such a one.
func ordered(holds func(order int) bool) func(a, b api.Val) api.Val {
	return func(a, b api.Val) api.Val { return truth(holds(val.Compare(a, b))) }
}

// sum returns a + b.
func sum(a, b api.Val) api.Val {
	switch a.Kind {
	case api.VInt:
		return integer(num.Add(a.Int, b.Int))
	case api.VDec:
		return must(dec.Add(a, b))
	case api.VSet:
		return must(val.Union(a, b))
	}
	return joined(a.Kind, all(a), all(b))
}

// difference returns a - b.
func difference(a, b api.Val) api.Val {
	switch a.Kind {
	case api.VInt:
		return integer(num.Sub(a.Int, b.Int))
	case api.VDec:
		return must(dec.Sub(a, b))
	}
	return must(val.Minus(a, b))
}

// product returns a * b.
func product(a, b api.Val) api.Val {
	switch {
	case a.Kind == api.VDec:
		return must(dec.Mul(a, b))
	case a.Kind == api.VSet:
		return must(val.Common(a, b))
	case b.Kind != api.VInt:
		return repeated(b, a)
	case a.Kind != api.VInt:
		return repeated(a, b)
	}
	return integer(num.Mul(a.Int, b.Int))
}

// demandNonzero ends a call that would divide by 0.
func demandNonzero(a api.Val) { demand(len(a.Int.Abs) > 0, api.FtZero) }

// quotient returns a / b.
func quotient(a, b api.Val) api.Val {
	demandNonzero(b)
	return must(dec.Div(a, b))
}

// floored returns the quotient of integers, rounded downward, and its rest.
func floored(a, b api.Val) (quotient, rest api.Val) {
	demandNonzero(b)
	q, r, e := num.Div(a.Int, b.Int)
	return integer(q, e), integer(r, e)
}

// remainder returns a mod b.
func remainder(a, b api.Val) api.Val {
	if a.Kind == api.VSet {
		return must(val.Union(must(val.Minus(a, b)), must(val.Minus(b, a))))
	}
	_, r := floored(a, b)
	return r
}

// power returns a ** b.
func power(a, b api.Val) api.Val {
	n := near(b.Int)
	if a.Kind == api.VInt {
		demand(n >= 0, api.FtRange)
		demand(n <= api.MaxPower, api.FtLimit)
		return integer(num.Pow(a.Int, n))
	}
	demand(n >= -api.MaxPower && n <= api.MaxPower, api.FtLimit)
	if n < 0 {
		demandNonzero(a)
	}
	return must(dec.Pow(a, n))
}

// has reports whether x is an element of a set or tuple, or a byte of a string.
func has(a, x api.Val) bool {
	switch a.Kind {
	case api.VStr:
		return isByte(x) && strings.Contains(a.Str, x.Str)
	case api.VSet:
		_, found := val.Find(a, x)
		return found
	}
	return slices.ContainsFunc(a.L, func(y api.Val) bool { return val.Compare(x, y) == 0 })
}

// with returns a tuple or set with one element more.
func with(a, b api.Val) api.Val {
	if a.Kind == api.VSet {
		return must(val.With(a, b))
	}
	return joined(a.Kind, all(a), all(api.Val{Kind: api.VTup, L: []api.Val{b}}))
}

// subsetsWith returns the set of all subsets of a with b elements.
func subsetsWith(a, b api.Val) api.Val {
	many := near(b.Int)
	demand(many >= 0, api.FtRange)
	return subsetsOf(a, many, many)
}

// greater returns the greater one of two values.
func greater(a, b api.Val) api.Val {
	if val.Compare(a, b) < 0 {
		a = b
	}
	return val.Copy(a)
}

// lesser returns the less one of two values.
func lesser(a, b api.Val) api.Val {
	if val.Compare(a, b) > 0 {
		a = b
	}
	return val.Copy(a)
}
