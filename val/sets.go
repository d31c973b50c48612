package val

import (
	"iter"
	"slices"

	"zermelo/api"
	"zermelo/guard"
)

// What these functions return shares the memory of elements with their arguments.

// tupleOf returns the tuple of a list without the om at its end.
func tupleOf(l []api.Val) api.Val {
	for len(l) > 0 && isOm(l[len(l)-1]) {
		l = l[:len(l)-1]
	}
	return api.Val{Kind: api.VTup, L: l}
}

// setOf returns the set of those values that are not om.
func setOf(l ...api.Val) api.Val {
	elements := slices.DeleteFunc(slices.Clone(l), isOm)
	slices.SortFunc(elements, Compare)
	same := func(a, b api.Val) bool { return Compare(a, b) == 0 }
	return api.Val{Kind: api.VSet, L: slices.CompactFunc(elements, same)}
}

// joined gives those elements of two increasing lists that stay, as each one belongs to the first list, to the second one, or to both.
func joined[T any](first, second []T, order func(x, y T) int, stays func(ofFirst, ofSecond bool) bool) iter.Seq[T] {
	return func(yield func(T) bool) {
		a, b := first, second
		for len(a) > 0 || len(b) > 0 {
			ofA, ofB := len(a) > 0, len(b) > 0
			if ofA && ofB {
				which := order(a[0], b[0])
				ofA, ofB = which <= 0, which >= 0
			}
			var least T
			if ofB {
				least, b = b[0], b[1:]
			}
			if ofA {
				least, a = a[0], a[1:]
			}
			if stays(ofA, ofB) && !yield(least) {
				return
			}
		}
	}
}

// onlyFirst says that the elements stay that only the first one of two lists has.
func onlyFirst(_, ofSecond bool) bool { return !ofSecond }

// combined returns the set of those elements of two sets that stay.
func combined(a, b api.Val, stays func(ofA, ofB bool) bool) (api.Val, api.Errno) {
	return made(func() api.Val {
		demandSets(a, b)
		return api.Val{Kind: api.VSet, L: slices.Collect(joined(a.L, b.L, Compare, stays))}
	})
}

// demandSets ends a call, unless all values are sets.
func demandSets(l ...api.Val) {
	for _, s := range l {
		guard.Demand(s.Kind == api.VSet, api.ErrType)
	}
}

// pairs gives the elements of the pairs of a map, in order, or ends the call if it is none.
func pairs(f api.Val) iter.Seq2[api.Val, api.Val] {
	guard.Demand(IsMap(f), api.ErrType)
	return func(yield func(x, y api.Val) bool) {
		for _, pair := range f.L {
			if !yield(pair.L[0], pair.L[1]) {
				return
			}
		}
	}
}

// images returns what a map has for x, in order: pairs with the same first element increase by the second one.
func images(f, x api.Val) []api.Val {
	var found []api.Val
	for at, y := range pairs(f) {
		if Compare(at, x) == 0 {
			found = append(found, y)
		}
	}
	return found
}
