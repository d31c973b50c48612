package setop

import (
	"slices"

	"zermelo/api"
	"zermelo/val"
)

// taken is an element, and what is left without it.
type taken struct{ x, rest api.Val }

// takings returns the ways in which elements are taken, by number.
func takings(choose chooser) map[int]operation[taken] {
	return map[int]operation[taken]{
		api.FrArb: {sets, func(a api.Val) taken {
			x := chosen(a, choose)
			return taken{x: x, rest: must(val.Less(a, x))}
		}},
		api.FrFirst: {tups | strs, func(a api.Val) taken { return takenAt(a, 0) }},
		api.FrLast:  {tups | strs, func(a api.Val) taken { return takenAt(a, size(a)-1) }},
	}
}

// chosen returns the element of a set that is chosen, or om if it has none.
func chosen(a api.Val, choose chooser) api.Val {
	if len(a.L) == 0 {
		return api.Val{}
	}
	return element(a, choose(len(a.L)))
}

// takenAt takes the element at an index out of a sequence, if it has any.
func takenAt(a api.Val, at int) taken {
	if size(a) == 0 {
		return taken{rest: val.Copy(a)}
	}
	rest := joined(a.Kind, piece{of: a, to: at}, piece{of: a, from: at + 1, to: size(a)})
	return taken{x: element(a, at), rest: rest}
}

// iterations returns the kinds of iterators, by number, with what is left of them when they begin.
func iterations() map[int]operation[[]api.Val] {
	return map[int]operation[[]api.Val]{
		api.ItElem:  {strs | tups | sets, elementsOf},
		api.ItMap:   {strs | tups | sets, pairsOf},
		api.ItImage: {sets, imagesOf},
	}
}

// elementsOf returns the elements of a sequence or set that are not om.
func elementsOf(a api.Val) []api.Val {
	isOm := func(x api.Val) bool { return x.Kind == api.VOm }
	return copies(slices.DeleteFunc(slices.Clone(elements(a)), isOm))
}

// pairsOf returns the indices of a sequence with the elements that are not om, and of a map what has but one image with that.
func pairsOf(a api.Val) []api.Val {
	var left []api.Val
	if a.Kind == api.VSet {
		for x, ys := range images(a) {
			if len(ys) == 1 {
				left = append(left, tuple(x, ys[0]))
			}
		}
		return left
	}
	for i, x := range elements(a) {
		if x.Kind != api.VOm {
			left = append(left, tuple(small(i+1), x))
		}
	}
	return left
}

// imagesOf returns the elements of the domain of a map with the sets of what it has for them.
func imagesOf(a api.Val) []api.Val {
	var left []api.Val
	for x, ys := range images(a) {
		left = append(left, tuple(x, set(ys...)))
	}
	return left
}

// stepped is what comes next of an iterator, and the iterator behind it.
type stepped struct {
	x, y api.Val
	rest api.Iter
}

// next takes out what comes next of an iterator that is not over.
func next(it api.Iter, choose chooser) stepped {
	at := 0
	if it.Any {
		at = choose(len(it.Left))
	}
	others := slices.Concat(it.Left[:at], it.Left[at+1:])
	s := stepped{rest: api.Iter{Kind: it.Kind, Any: it.Any, Left: copies(others)}}
	if it.Kind == api.ItElem {
		s.x = val.Copy(it.Left[at])
	} else {
		s.x, s.y = element(it.Left[at], 0), element(it.Left[at], 1)
	}
	return s
}

// copies returns values that share no memory with those of a list.
func copies(l []api.Val) []api.Val { return val.Copy(api.Val{Kind: api.VTup, L: l}).L }
