package setop

import (
	"slices"

	"zermelo/api"
	"zermelo/num"
	"zermelo/val"
)

// A sequence is a string, with its bytes as elements, or a tuple.

// isByte reports whether a value is a string of one byte.
func isByte(a api.Val) bool { return a.Kind == api.VStr && len(a.Str) == 1 }

// size returns how many elements a sequence or set has.
func size(a api.Val) int {
	if a.Kind == api.VStr {
		return len(a.Str)
	}
	return len(a.L)
}

// element returns the element at an index of a sequence or set.
func element(a api.Val, at int) api.Val {
	if a.Kind == api.VStr {
		return str(a.Str[at : at+1])
	}
	return val.Copy(a.L[at])
}

// elements returns the elements of a sequence or set. They may share memory with it.
func elements(a api.Val) []api.Val {
	if a.Kind != api.VStr {
		return a.L
	}
	var l []api.Val
	for at := range len(a.Str) {
		l = append(l, element(a, at))
	}
	return l
}

// piece is a part of a sequence: the elements from one index to below another one.
type piece struct {
	of       api.Val
	from, to int
}

// all returns the piece that is a whole sequence.
func all(a api.Val) piece { return piece{of: a, to: size(a)} }

// joined returns the sequence of a Kind that has the elements of pieces, one behind the other.
func joined(kind int, pieces ...piece) api.Val {
	if kind == api.VStr {
		return str(string(gathered(pieces, func(a api.Val) []byte { return []byte(a.Str) })))
	}
	return tuple(gathered(pieces, func(a api.Val) []api.Val { return a.L })...)
}

// gathered returns the elements of pieces of sequences whose elements are told by a function.
func gathered[T any](pieces []piece, elements func(a api.Val) []T) []T {
	var l []T
	for _, p := range pieces {
		l = append(l, elements(p.of)[p.from:p.to]...)
	}
	return l
}

// repeated returns a sequence as often as an integer says.
func repeated(a, often api.Val) api.Val {
	times := near(often.Int)
	demand(times >= 0, api.FtRange)
	if size(a) == 0 {
		return val.Copy(a)
	}
	// What is far too large is not put together.
	most := api.MaxNodes
	if a.Kind == api.VStr {
		most = api.MaxStr
	}
	demand(times <= most/size(a), api.FtLimit)
	return joined(a.Kind, slices.Repeat([]piece{all(a)}, times)...)
}

// span returns from which index to below which one the operands of a slice say.
func span(a api.Val, l []api.Val) (from, to int) {
	first, last := within(l[0], 1, size(a)+1), size(a)
	if len(l) > 1 {
		last = within(l[1], first-1, last)
	}
	return first - 1, last
}

// putByte returns a string after a(l) := b.
func putByte(a api.Val, l []api.Val, b api.Val) api.Val {
	demand(isByte(b), api.FtType)
	examine(placed(l, ints)...)
	i := within(l[0], 1, size(a))
	return joined(a.Kind, piece{of: a, to: i - 1}, all(b), piece{of: a, from: i, to: size(a)})
}

// putElement returns a tuple after a(l) := b.
func putElement(a api.Val, l []api.Val, b api.Val) api.Val {
	examine(operand{value: b, takes: values | oms})
	examine(placed(l, ints)...)
	i := within(l[0], 1, api.MaxNodes)
	grown := make([]api.Val, max(i, size(a)))
	copy(grown, a.L)
	grown[i-1] = b
	return tuple(grown...)
}

// empty returns what om counts as ahead of an assignment to a part with such operands.
func empty(l []api.Val) api.Val {
	if len(l) == 1 && l[0].Kind == api.VInt {
		return api.Val{Kind: api.VTup}
	}
	return api.Val{Kind: api.VSet}
}

// progression returns the integers from first on, by equal steps, up to last, or down to it.
func progression(first, step, last api.Int) []api.Val {
	demand(len(step.Abs) > 0, api.FtRange)
	steps, _, e := num.Div(must(num.Sub(last, first)), step)
	greatest := near(must(steps, e)) // below 0, if there are none
	// There may be far too many.
	demand(greatest < api.MaxNodes-1, api.FtLimit)
	var numbers []api.Val
	for range greatest + 1 {
		numbers = append(numbers, integer(first, api.OK))
		first = must(num.Add(first, step))
	}
	return numbers
}
