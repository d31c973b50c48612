package parse

import (
	"zermelo/api"
	"zermelo/lex"
	"zermelo/macro"
)

// spot is a line and a column.
type spot struct{ line, col int }

// spotOf returns where a position of a source is.
func spotOf(src string, at int) spot {
	line, col, _ := lex.Where(src, at)
	return spot{line, col}
}

// spotIn returns where a token of a list is; behind the last one, where the source ends.
func spotIn(src string, l []api.Token, at int) spot {
	if at < len(l) {
		return spot{l[at].Line, l[at].Col}
	}
	return spotOf(src, len(src))
}

// scanned returns the tokens of a source; with an error: where it is.
func scanned(src string) ([]api.Token, spot, api.Errno) {
	l, at, e := lex.Scan(src)
	if e != api.OK && len(src) <= api.MaxSource {
		return nil, spotOf(src, at), e
	}
	return l, spot{}, e // of a source that is too long no place is told
}

// expanded returns the tokens of a source without macros; with an error: where it is.
func expanded(src string) ([]api.Token, spot, api.Errno) {
	l, there, e := scanned(src)
	if e != api.OK {
		return nil, there, e
	}
	defs, rest, at, e := macro.Split(l)
	if e != api.OK {
		return nil, spotIn(src, l, at), e
	}
	x, at, e := macro.Expand(defs, rest)
	if e != api.OK {
		return nil, spotIn(src, rest, at), e
	}
	return x.Tokens, spot{}, api.OK
}

// parsed returns the trees that are read of all tokens; with an error: the index of the token.
func parsed(l []api.Token, trees func(*parser) []api.Node) (all []api.Node, at int, e api.Errno) {
	wrong := attempt(func() {
		p := newParser(l)
		all = trees(p)
		if !p.ended() {
			p.wrong()
		}
		for _, n := range all {
			if !small(n) {
				panic(mistake{0, api.ErrLimit})
			}
		}
	})
	if wrong.e != api.OK {
		return nil, wrong.at, wrong.e
	}
	return all, 0, api.OK
}

// derived returns the trees that are read of the tokens of a source; with an error: its line and column.
func derived(src string, l []api.Token, trees func(*parser) []api.Node) ([]api.Node, int, int, api.Errno) {
	all, at, e := parsed(l, trees)
	switch {
	case e == api.OK:
		return all, 0, 0, api.OK
	case e == api.ErrLimit && at == 0: // that of a tree: a list that is too long has tokens ahead of its end
		return nil, 1, 1, e
	}
	there := spotIn(src, l, at)
	return nil, there.line, there.col, e
}

// single returns the tree that is read of a source without macros; with an error: its line and column.
func single(src string, tree func(*parser) api.Node) (api.Node, int, int, api.Errno) {
	l, there, e := scanned(src)
	if e != api.OK {
		return api.Node{}, there.line, there.col, e
	}
	all, line, col, e := derived(src, l, func(p *parser) []api.Node { return []api.Node{tree(p)} })
	if e != api.OK {
		return api.Node{}, line, col, e
	}
	return all[0], 0, 0, api.OK
}
