package val

import (
	"zermelo/api"
	"zermelo/guard"
)

// renaming is which numbers atoms, from 1 on, and procedures, from 0 on, have instead.
type renaming struct{ atoms, procs []int }

// demandNumbers ends a call, unless all numbers are from least on.
func demandNumbers(l []int, least int) {
	for _, n := range l {
		guard.Demand(n >= least, api.ErrArg)
	}
}

// of returns a value with the other numbers. It shares memory with v.
func (r renaming) of(v api.Val) api.Val {
	switch v.Kind {
	case api.VAtom:
		v.N = numbered(v.N, v.N-1, r.atoms)
	case api.VProc:
		v.N = numbered(v.N, v.N, r.procs)
	case api.VTup:
		v.L = r.ofAll(v.L)
	case api.VSet:
		// Other numbers may lead to another order, and to fewer elements.
		return setOf(r.ofAll(v.L)...)
	}
	return v
}

// ofAll returns values with the other numbers.
func (r renaming) ofAll(l []api.Val) []api.Val {
	var others []api.Val
	for _, x := range l {
		others = append(others, r.of(x))
	}
	return others
}

// numbered returns what a list has at an index instead of n, or n if it ends ahead of that.
func numbered(n, at int, l []int) int {
	if at >= 0 && at < len(l) {
		return l[at]
	}
	return n
}
