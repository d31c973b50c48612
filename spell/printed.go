package spell

import (
	"iter"
	"math"
	"strings"

	"zermelo/api"
	"zermelo/dec"
	"zermelo/guard"
	"zermelo/num"
	"zermelo/val"
)

// reader reads printed forms.
type reader struct {
	source
	open    []int // where the tuples and sets begin that have not ended yet
	tooMany bool  // whether one of those that have ended has too many nodes
}

// newReader returns a reader of a string; wrong is the error of what is no printed form.
func newReader(s string, wrong api.Errno) *reader {
	return &reader{source: source{all: s, wrong: wrong}}
}

// limit ends a call, unless the value that begins there is not too large.
func (r *reader) limit(holds bool, there int) {
	if !holds {
		r.at = there
	}
	guard.Demand(holds, api.ErrLimit)
}

// whole reads a printed form that nothing but blanks stands beside.
func (r *reader) whole() api.Val {
	r.blanks()
	v := r.value()
	r.blanks()
	r.end()
	r.limit(!r.tooMany, 0)
	return v
}

// blanks reads the blanks that are next.
func (r *reader) blanks() {
	for r.skip(' ') {
	}
}

// value reads a printed form without the blanks beside it.
func (r *reader) value() api.Val {
	read := r.beginning()
	// With its first byte the innermost tuple or set has an element, however that goes on.
	if deep := len(r.open); deep >= api.MaxDeep {
		r.limit(false, r.open[deep-1])
	}
	return read()
}

// beginning returns what reads the printed forms that begin with the next byte.
func (r *reader) beginning() func() api.Val {
	c := r.next()
	switch {
	case c == '<':
		return r.named
	case c == 't':
		return func() api.Val { return r.truth("true", 1) }
	case c == 'f':
		return func() api.Val { return r.truth("false", 0) }
	case c == '"':
		return r.str
	case c == '[':
		return func() api.Val { return r.elements(']', val.Tuple) }
	case c == '{':
		return func() api.Val { return r.elements('}', val.Set) }
	}
	r.demand(c == '-' || isDigit(c))
	return r.number
}

// named reads om, an atom or a procedure.
func (r *reader) named() api.Val {
	r.need("<")
	switch r.next() {
	case 'a':
		r.need("atom ")
		return r.numbered(api.VAtom, 1)
	case 'p':
		r.need("proc ")
		return r.numbered(api.VProc, 0)
	}
	r.need("om>")
	return api.Val{}
}

// numbered reads the number of an atom or a procedure, which is at least so large, and what ends it.
func (r *reader) numbered(kind, least int) api.Val {
	n, from := 0, r.at
	for ; isDigit(r.next()); r.at++ {
		digit := int(r.next() - '0')
		r.demand(n <= (math.MaxInt-digit)/10)
		n = 10*n + digit
	}
	r.demand(r.at > from && n >= least)
	r.need(">")
	return api.Val{Kind: kind, N: n}
}

// truth reads a word, which stands for a boolean.
func (r *reader) truth(word string, n int) api.Val {
	r.need(word)
	return api.Val{Kind: api.VBool, N: n}
}

// str reads a quoted form.
func (r *reader) str() api.Val {
	from := r.at
	var s []byte
	for b := range r.quoted() {
		s = append(s, b)
		r.limit(len(s) <= api.MaxStr, from)
	}
	return api.Val{Kind: api.VStr, Str: string(s)}
}

// quoted reads a quoted form, and gives the bytes of its string.
func (r *reader) quoted() iter.Seq[byte] {
	return func(yield func(byte) bool) {
		r.need(`"`)
		for {
			c := r.next()
			switch {
			case r.skip('"'):
				if !r.skip('"') {
					return
				}
			case r.skip('\\'):
				if r.skip('n') {
					c = '\n'
				} else {
					r.need(`\`)
				}
			default:
				r.demand(c >= 32 && c <= 126)
				r.at++
			}
			if !yield(c) {
				return
			}
		}
	}
}

// number reads an integer or a decimal.
func (r *reader) number() api.Val {
	from := r.at
	r.skip('-')
	r.digits()
	point := r.at
	if !r.skip('.') {
		n, e := num.Parse(r.all[from:point], 10)
		r.limit(e == api.OK && len(n.Abs) <= api.MaxLimbs, from)
		return api.Val{Kind: api.VInt, Int: n}
	}
	r.digits()
	places := strings.TrimRight(r.all[point+1:r.at], "0")
	r.limit(len(places) <= api.MaxScale, from)
	n, e := num.Parse(r.all[from:point]+places, 10)
	r.limit(e == api.OK, from)
	v, e := dec.Make(n, len(places))
	r.limit(e == api.OK, from)
	return v
}

// digits reads digits, at least one.
func (r *reader) digits() {
	r.demand(isDigit(r.next()))
	for isDigit(r.next()) {
		r.at++
	}
}

// isDigit reports whether a byte is a digit.
func isDigit(c byte) bool { return c >= '0' && c <= '9' }

// elements reads a tuple or a set, which is made of its elements.
func (r *reader) elements(end byte, made func([]api.Val) (api.Val, api.Errno)) api.Val {
	r.open = append(r.open, r.at)
	r.at++
	more := func(already int) bool {
		r.blanks()
		if r.skip(end) {
			return false
		}
		if already > 0 {
			r.need(",")
			r.blanks()
		}
		return true
	}
	l := list(more, r.value)
	r.open = r.open[:len(r.open)-1]
	v, e := made(l)
	// Errors that stand behind come first: reading goes on, with om instead.
	r.tooMany = r.tooMany || e != api.OK
	return v
}
