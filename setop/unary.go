package setop

import (
	"zermelo/api"
	"zermelo/dec"
	"zermelo/num"
	"zermelo/spell"
	"zermelo/val"
)

// operation is an operation of one operand: what it takes, and what it makes of that.
type operation[T any] struct {
	takes kinds
	work  func(a api.Val) T
}

// carriedOut returns what the operation with a number makes of a value.
func carriedOut[T any](operations map[int]operation[T], number int, a api.Val) (T, int) {
	return attempt(func() T {
		o, known := operations[number]
		demand(known, api.FtType)
		examine(operand{value: a, takes: o.takes})
		return o.work(a)
	})
}

// unaries returns the operations of one operand, by number.
func unaries(choose chooser) map[int]operation[api.Val] {
	return map[int]operation[api.Val]{
		api.UnNeg: {ints | decs, negative},
		api.UnNot: {bools, func(a api.Val) api.Val { return truth(a.N == 0) }},
		api.UnLen: {strs | tups | sets, func(a api.Val) api.Val { return small(size(a)) }},
		api.UnArb: {sets, func(a api.Val) api.Val { return chosen(a, choose) }},
		api.UnPow: {sets, func(a api.Val) api.Val { return subsetsOf(a, 0, len(a.L)) }},
		api.UnDom: {sets, domain},
		api.UnRan: {sets, rangeOf},
		api.UnInv: {sets, inverse},
		api.UnAbs: {ints | decs | strs, magnitude},
		api.UnChr: {ints, character},
		api.UnStr: {values, func(a api.Val) api.Val { return str(must(spell.Show(a))) }},
		api.UnFix: {decs, func(a api.Val) api.Val { return integer(dec.Fix(a)) }},
		api.UnDec: {ints, func(a api.Val) api.Val { return must(dec.Make(a.Int, 0)) }},
		api.UnTyp: {values, func(a api.Val) api.Val { return str(kindName(a.Kind)) }},
		api.UnOm:  {values | oms, func(a api.Val) api.Val { return truth(a.Kind == api.VOm) }},
		api.UnTup: {sets, func(a api.Val) api.Val { return tuple(a.L...) }},
		api.UnElt: {tups | strs, func(a api.Val) api.Val { return set(elements(a)...) }},
	}
}

// negative returns the negative number.
func negative(a api.Val) api.Val {
	if a.Kind == api.VDec {
		return must(dec.Neg(a))
	}
	return integer(num.Sub(num.Of(0), a.Int))
}

// magnitude returns a number without its sign, or the code of a string of one byte.
func magnitude(a api.Val) api.Val {
	switch {
	case a.Kind == api.VStr:
		demand(isByte(a), api.FtRange)
		return small(int(a.Str[0]))
	case a.Int.Neg:
		return negative(a)
	}
	return val.Copy(a)
}

// character returns the string of the byte with a code.
func character(a api.Val) api.Val {
	code := near(a.Int)
	demand(code == '\n' || code >= 32 && code <= 126, api.FtRange)
	return str(string([]byte{byte(code)}))
}

// kindName returns the name of a Kind.
func kindName(kind int) string {
	return [...]string{
		api.VBool: "boolean",
		api.VInt:  "integer",
		api.VDec:  "decimal",
		api.VStr:  "string",
		api.VAtom: "atom",
		api.VProc: "procedure",
		api.VTup:  "tuple",
		api.VSet:  "set",
	}[kind]
}
