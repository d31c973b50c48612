package setop

import (
	"iter"
	"slices"

	"zermelo/api"
	"zermelo/val"
)

// subsets gives the subsets of a set that have from least to most elements, increasing.
func subsets(a api.Val, least, most int) iter.Seq[api.Val] {
	return func(yield func(api.Val) bool) {
		var extend func(some, others []api.Val, missing int) bool
		extend = func(some, others []api.Val, missing int) bool {
			if missing == 0 {
				return yield(api.Val{Kind: api.VSet, L: slices.Clone(some)})
			}
			for i := range len(others) - missing + 1 {
				if !extend(append(some, others[i]), others[i+1:], missing-1) {
					return false
				}
			}
			return true
		}
		for many := least; many <= min(most, len(a.L)); many++ {
			if !extend(nil, a.L, many) {
				return
			}
		}
	}
}

// subsetsOf returns the set of all subsets of a set that have from least to most elements.
func subsetsOf(a api.Val, least, most int) api.Val {
	var l []api.Val
	room := api.MaxNodes - 1
	for s := range subsets(a, least, most) {
		// There may be far too many.
		room -= val.Nodes(s)
		demand(room >= 0, api.FtLimit)
		l = append(l, s)
	}
	return set(l...)
}

// domain returns the set of the first elements of the pairs of a map.
func domain(a api.Val) api.Val {
	demandMap(a)
	xs, _, e := val.Sides(a)
	return must(xs, e)
}

// rangeOf returns the set of the second elements of the pairs of a map.
func rangeOf(a api.Val) api.Val {
	demandMap(a)
	_, ys, e := val.Sides(a)
	return must(ys, e)
}

// inverse returns a map with its pairs turned round.
func inverse(a api.Val) api.Val {
	demandMap(a)
	return must(val.Inverse(a))
}

// key returns the value of the operands with which a map is asked.
func key(l []api.Val) api.Val {
	if len(l) == 1 {
		return l[0]
	}
	return api.Val{Kind: api.VTup, L: l}
}

// withImage returns a map that has some values for x, and no others.
func withImage(a, x api.Val, ys []api.Val) api.Val {
	demandMap(a)
	var pairs []api.Val
	for _, pair := range a.L {
		if val.Compare(pair.L[0], x) != 0 {
			pairs = append(pairs, pair)
		}
	}
	for _, y := range ys {
		pairs = append(pairs, api.Val{Kind: api.VTup, L: []api.Val{x, y}})
	}
	return set(pairs...)
}

// putValue returns a map after a(l) := b.
func putValue(a api.Val, l []api.Val, b api.Val) api.Val {
	examine(operand{value: b, takes: values | oms})
	examine(free(l)...)
	if b.Kind == api.VOm {
		return withImage(a, key(l), nil)
	}
	return withImage(a, key(l), []api.Val{b})
}

// images gives the elements of the domain of a map, increasing, each with all that the map has for it, increasing.
func images(a api.Val) iter.Seq2[api.Val, []api.Val] {
	demandMap(a)
	return func(yield func(x api.Val, ys []api.Val) bool) {
		for left := a.L; len(left) > 0; {
			x := left[0].L[0]
			var ys []api.Val
			for len(left) > 0 && val.Compare(left[0].L[0], x) == 0 {
				ys = append(ys, left[0].L[1])
				left = left[1:]
			}
			if !yield(x, ys) {
				return
			}
		}
	}
}
