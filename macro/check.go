package macro

import (
	"slices"

	"zermelo/api"
	"zermelo/lex"
)

// isSign reports whether a token is a sign.
func isSign(t api.Token, text string) bool { return t.Kind == api.TkSign && t.Text == text }

// isKey reports whether a token is one of some key words.
func isKey(t api.Token, words ...string) bool {
	return t.Kind == api.TkKey && slices.Contains(words, t.Text)
}

// demandRight demands that a list of macros is right.
func demandRight(defs []api.Macro) {
	demand(len(defs) <= api.MaxMacros, api.ErrLimit, place{})
	seen := map[string]bool{}
	many := 0
	for i, m := range defs {
		demand(isRight(m), api.ErrMacro, place{at: i})
		demand(!seen[m.Name], api.ErrTwice, place{at: i})
		seen[m.Name] = true
		many += len(m.Body)
	}
	demandFew(many)
}

// isRight reports whether a macro is right.
func isRight(m api.Macro) bool {
	if len(m.Params) > api.MaxParams || len(m.Fresh) > api.MaxParams || !lex.IsName(m.Name) {
		return false
	}
	seen := map[string]bool{}
	for _, name := range slices.Concat(m.Params, m.Fresh) {
		if seen[name] || !lex.IsName(name) {
			return false
		}
		seen[name] = true
	}
	return !slices.ContainsFunc(m.Body, isForeign)
}

// isForeign reports whether a token cannot stand in a Body.
func isForeign(t api.Token) bool { return isKey(t, "macro", "endm", "include") || isFresh(t) }

// uses returns which macros the Body of a macro uses.
func uses(m api.Macro, which names) []int {
	var used []int
	for _, t := range m.Body {
		i, is := which.use(t)
		if is && !slices.Contains(m.Params, t.Text) && !slices.Contains(m.Fresh, t.Text) {
			used = append(used, i)
		}
	}
	return used
}

// circles reports for each macro whether it can come to use itself.
func circles(defs []api.Macro) []bool {
	which := indices(defs)
	var used [][]int
	for _, m := range defs {
		used = append(used, uses(m, which))
	}
	var found []bool
	for i := range defs {
		found = append(found, leadsBack(used, i))
	}
	return found
}

// leadsBack reports whether going by uses, at least once, leads from a macro back to it.
func leadsBack(used [][]int, from int) bool {
	reached := make([]bool, len(used))
	var reach func(i int)
	reach = func(i int) {
		for _, next := range used[i] {
			if !reached[next] {
				reached[next] = true
				reach(next)
			}
		}
	}
	reach(from)
	return reached[from]
}
