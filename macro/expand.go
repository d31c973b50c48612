package macro

import (
	"slices"

	"zermelo/api"
)

// names are the indices of macros by their Names.
type names map[string]int

// indices returns the indices of macros by their Names.
func indices(defs []api.Macro) names {
	which := names{}
	for i, m := range defs {
		which[m.Name] = i
	}
	return which
}

// use returns which macro a token uses, if it is a use.
func (n names) use(t api.Token) (int, bool) {
	if t.Kind != api.TkName {
		return 0, false
	}
	i, is := n[t.Text]
	return i, is
}

// first returns the index of the first use in a list, and the macro; -1 and -1 if there is none.
func (n names) first(l []api.Token) (int, int) {
	for at, t := range l {
		if i, is := n.use(t); is {
			return at, i
		}
	}
	return -1, -1
}

// expander expands the uses of a list: what is done is in Expanded, and what is not on the stack.
type expander struct {
	*stack
	api.Expanded
	names names
	many  int // how many tokens the list has, in Expanded and on the stack
}

// newExpander returns an expander of a list.
func newExpander(defs []api.Macro, l []api.Token) *expander {
	x := &expander{stack: newStack(l, defs...), names: indices(defs), many: len(l)}
	x.begin(0)
	return x
}

// expand expands all uses.
func (x *expander) expand() {
	for o := range x.tokens() {
		t := x.token(o)
		if which, is := x.names.use(t); is {
			x.open(which, o)
			continue
		}
		x.Tokens = append(x.Tokens, t)
		x.Origins = append(x.Origins, o)
	}
}

// open expands a use, whose name has been taken off the stack.
func (x *expander) open(which int, use api.Origin) {
	at, deep := x.back(use)
	there := place{at: at}
	demand(deep < api.MaxMacroDeep, api.ErrDeep, there)
	p := x.patterns[which]
	var args [][]api.Origin
	gone := 1
	if len(p.Params) > 0 {
		found, many := x.arguments()
		demand(len(found) == len(p.Params), api.ErrActuals, there)
		args = found
		gone += many
	}
	demand(len(x.Opened) < api.MaxTokens, api.ErrLimit, there)
	x.many += p.size(args) - gone
	demand(x.many <= api.MaxTokens, api.ErrLimit, there)
	x.Opened = append(x.Opened, api.Opened{Macro: which, Use: use})
	x.put(which, len(x.Opened), args)
}

// back returns the index of the token of the given list from which one with an origin comes, and how deep the latter is.
func (x *expander) back(o api.Origin) (at, deep int) {
	for o.By > 0 {
		o = x.Opened[o.By-1].Use
		deep++
	}
	return o.At, deep
}

// chain returns the numbers of the expansions by which a token came, which the expansion by has put.
func chain(opened []api.Opened, by int) []int {
	var l []int
	most := len(opened)
	for by != 0 {
		demand(by > 0 && by <= most, api.ErrArg, place{})
		l = append(l, by)
		most = by - 1
		by = opened[most].Use.By
	}
	slices.Reverse(l)
	return l
}
