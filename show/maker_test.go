package show_test

import (
	"math/rand"

	"zermelo/api"
)

// maker makes trees by chance.
type maker struct{ *rand.Rand }

// pick returns one of some numbers.
func (m maker) pick(l ...int) int { return l[m.Intn(len(l))] }

// texts are Texts that tokens can have.
var (
	goodNames   = []string{"x", "y", "abc", "a_1", "twentyfourlettersinaname"}
	goodInts    = []string{"0", "7", "1234567890"}
	goodDecs    = []string{"0.0", "1.5", "20.25"}
	goodStrings = []string{"", "a", `a"b`, " ~", "$ + end"}
)

// any returns one of some texts.
func (m maker) text(l []string) string { return l[m.Intn(len(l))] }

// some makes from so many to so many nodes.
func (m maker) some(least, most int, make func(int) api.Node, deep int) []api.Node {
	var l []api.Node
	for range least + m.Intn(most-least+1) {
		l = append(l, make(deep))
	}
	return l
}

// name makes a name.
func (m maker) name(int) api.Node { return api.Node{Kind: api.NdName, Text: m.text(goodNames)} }

// leaf makes an expression without parts.
func (m maker) leaf() api.Node {
	switch kind := m.pick(api.NdInt, api.NdDec, api.NdStr, api.NdName, api.NdName, api.NdBool, api.NdOm, api.NdNewat, api.NdOk); kind {
	case api.NdInt:
		return api.Node{Kind: kind, Text: m.text(goodInts)}
	case api.NdDec:
		return api.Node{Kind: kind, Text: m.text(goodDecs)}
	case api.NdStr:
		return api.Node{Kind: kind, Text: m.text(goodStrings)}
	case api.NdName:
		return m.name(0)
	case api.NdBool:
		return api.Node{Kind: kind, N: m.Intn(2)}
	default:
		return api.Node{Kind: kind}
	}
}

// expr makes an expression.
func (m maker) expr(deep int) api.Node {
	if deep <= 0 {
		return m.leaf()
	}
	deep--
	node := func(kind, n int, kids ...api.Node) api.Node { return api.Node{Kind: kind, N: n, Kids: kids} }
	sort := m.pick(api.VTup, api.VSet)
	switch m.Intn(14) {
	case 0, 1, 2, 3:
		r := table[m.Intn(len(table))]
		n := node(r.kind, r.numbers[m.Intn(len(r.numbers))], m.expr(deep))
		if r.first > 0 {
			n.Kids = append(n.Kids, m.expr(deep))
		}
		return n
	case 4:
		return node(api.NdFold, m.pick(1, 2, 3, 4, 5, 6, 7, 18, 19, 20, 21, 22, 23, 24, 25), m.some(1, 2, m.expr, deep)...)
	case 5:
		return node(m.pick(api.NdTuple, api.NdSet), 0, m.some(0, 4, m.expr, deep)...)
	case 6:
		return node(api.NdRange, sort, m.some(2, 3, m.expr, deep)...)
	case 7:
		return node(api.NdFormer, sort, m.expr(deep), m.iters(deep), m.maybe(deep))
	case 8:
		x := m.plain(deep)
		return node(api.NdFormer, sort, x, node(api.NdIters, 0, node(api.NdIn, 0, x, m.expr(deep))), m.expr(deep))
	case 9:
		return node(api.NdQuant, m.Intn(3), m.iters(deep), m.expr(deep))
	case 10:
		kids := []api.Node{m.expr(deep)}
		for range 1 + m.Intn(2) {
			kids = append(kids, m.expr(deep), m.expr(deep))
		}
		return node(api.NdIfx, 0, kids...)
	case 11:
		return node(api.NdSel, 0, append(m.some(1, 1, m.expr, deep), m.some(0, 3, m.expr, deep)...)...)
	case 12:
		return node(api.NdImg, 0, append(m.some(1, 1, m.expr, deep), m.some(1, 3, m.expr, deep)...)...)
	}
	return node(api.NdSlice, 0, m.expr(deep), m.expr(deep), m.maybe(deep))
}

// maybe makes an expression, or nothing.
func (m maker) maybe(deep int) api.Node {
	if m.Intn(2) == 0 {
		return api.Node{Kind: api.NdNone}
	}
	return m.expr(deep)
}

// iters makes iterators.
func (m maker) iters(deep int) api.Node {
	return api.Node{Kind: api.NdIters, Kids: m.some(1, 2, m.iter, deep)}
}

// iter makes an iterator.
func (m maker) iter(deep int) api.Node {
	kind := m.pick(api.NdIn, api.NdIn, api.NdAt, api.NdImage)
	kids := []api.Node{m.pattern(deep), m.expr(deep)}
	if kind != api.NdIn {
		kids = append(kids, m.plain(deep))
	}
	return api.Node{Kind: kind, Kids: kids}
}

// pattern makes a pattern.
func (m maker) pattern(deep int) api.Node {
	switch {
	case m.Intn(5) == 0:
		return api.Node{Kind: api.NdSkip}
	case deep > 0 && m.Intn(3) == 0:
		return api.Node{Kind: api.NdTuple, Kids: m.some(1, 3, m.pattern, deep-1)}
	}
	return m.name(0)
}

// plain makes a plain pattern.
func (m maker) plain(deep int) api.Node {
	if deep > 0 && m.Intn(3) == 0 {
		return api.Node{Kind: api.NdTuple, Kids: m.some(1, 3, m.plain, deep-1)}
	}
	return m.name(0)
}

// place makes what begins with a name, of which selections have at least so many operands.
func (m maker) place(deep, least int) api.Node {
	if deep <= 0 || m.Intn(2) == 0 {
		return m.name(0)
	}
	whole := []api.Node{m.place(deep-1, least)}
	switch m.Intn(3) {
	case 0:
		return api.Node{Kind: api.NdSel, Kids: append(whole, m.some(least, 2, m.expr, deep-1)...)}
	case 1:
		return api.Node{Kind: api.NdImg, Kids: append(whole, m.some(1, 2, m.expr, deep-1)...)}
	}
	return api.Node{Kind: api.NdSlice, Kids: append(whole, m.expr(deep-1), m.maybe(deep-1))}
}

// left makes what is assigned to.
func (m maker) left(deep int) api.Node {
	if deep > 0 && m.Intn(3) == 0 {
		return api.Node{Kind: api.NdTuple, Kids: m.some(1, 3, func(deep int) api.Node {
			if m.Intn(4) == 0 {
				return api.Node{Kind: api.NdSkip}
			}
			return m.left(deep)
		}, deep-1)}
	}
	return m.place(deep, 1)
}

// body makes statements.
func (m maker) body(deep int) api.Node {
	return api.Node{Kind: api.NdBody, Kids: m.some(0, 3, m.statement, deep-1)}
}

// statement makes a statement.
func (m maker) statement(deep int) api.Node {
	node := func(kind, n int, kids ...api.Node) api.Node { return api.Node{Kind: kind, N: n, Kids: kids} }
	switch m.Intn(14) {
	case 0:
		return node(api.NdAssign, 0, m.left(deep), m.expr(deep))
	case 1:
		return node(api.NdChange, m.pick(1, 4, 7, 18, 23, 24, 25), m.place(deep, 1), m.expr(deep))
	case 2:
		return node(api.NdFrom, m.Intn(3), m.left(deep), m.place(deep, 1))
	case 3, 4:
		return node(api.NdCall, 0, node(api.NdSel, 0, append([]api.Node{m.place(deep, 0)}, m.some(0, 2, m.expr, deep)...)...))
	case 5:
		return node(api.NdPrint, 0, m.some(0, 3, m.expr, deep)...)
	case 6:
		return node(api.NdRead, 0, m.some(1, 3, m.left, deep)...)
	case 7:
		return node(api.NdReturn, 0, m.some(0, 1, m.expr, deep)...)
	case 8:
		return node(api.NdAssert, 0, m.expr(deep))
	case 9:
		return node(m.pick(api.NdQuit, api.NdContinue, api.NdFail, api.NdSucceed, api.NdStop), 0)
	}
	if deep <= 0 {
		return node(api.NdStop, 0)
	}
	return m.nested(deep - 1)
}

// nested makes a statement with bodies.
func (m maker) nested(deep int) api.Node {
	node := func(kind int, kids ...api.Node) api.Node { return api.Node{Kind: kind, Kids: kids} }
	var kids []api.Node
	switch m.Intn(5) {
	case 0:
		for range 1 + m.Intn(2) {
			kids = append(kids, m.expr(deep), m.body(deep))
		}
		return node(api.NdIf, append(kids, m.some(0, 1, m.body, deep)...)...)
	case 1:
		kids = append(kids, m.maybe(deep))
		for range 1 + m.Intn(2) {
			kids = append(kids, node(api.NdWhen, node(api.NdList, m.some(1, 3, m.expr, deep)...), m.body(deep)))
		}
		return node(api.NdCase, append(kids, m.some(0, 1, m.body, deep)...)...)
	case 2:
		return node(m.pick(api.NdWhile, api.NdUntil), m.expr(deep), m.body(deep))
	case 3:
		return node(api.NdFor, m.iters(deep), m.maybe(deep), m.body(deep))
	}
	return node(api.NdLoop, m.body(deep))
}

// unit makes a unit.
func (m maker) unit(deep int) api.Node {
	n := api.Node{Kind: m.pick(api.NdProgram, api.NdModule), Text: m.text(goodNames)}
	decls := api.Node{Kind: api.NdDecls, Kids: m.some(0, 3, m.decl, deep)}
	procs := api.Node{Kind: api.NdProcs, Kids: m.some(0, 2, m.proc, deep)}
	if n.Kind == api.NdProgram {
		n.Kids = []api.Node{decls, m.body(deep), procs}
	} else {
		n.Kids = []api.Node{{Kind: api.NdExports, Kids: m.some(0, 3, m.name, 0)}, decls, procs}
	}
	return n
}

// decl makes a declaration.
func (m maker) decl(int) api.Node {
	kind := m.pick(api.NdUses, api.NdVar, api.NdConst)
	if kind != api.NdConst {
		return api.Node{Kind: kind, Kids: m.some(1, 10, m.name, 0)}
	}
	value := api.Node{Kind: api.NdDec, Text: m.text(goodDecs)}
	switch m.Intn(4) {
	case 0:
		value = api.Node{Kind: api.NdUn, N: api.UnNeg, Kids: []api.Node{value}}
	case 1:
		value = api.Node{Kind: api.NdStr, Text: m.text(goodStrings)}
	case 2:
		value = api.Node{Kind: api.NdBool, N: m.Intn(2)}
	}
	return api.Node{Kind: kind, Text: m.text(goodNames), Kids: []api.Node{value}}
}

// proc makes a procedure.
func (m maker) proc(deep int) api.Node {
	params := m.some(0, 3, func(int) api.Node {
		return api.Node{Kind: api.NdParam, Text: m.text(goodNames), N: m.Intn(3)}
	}, 0)
	vars := m.some(0, 2, func(int) api.Node { return api.Node{Kind: api.NdVar, Kids: m.some(1, 3, m.name, 0)} }, 0)
	return api.Node{Kind: api.NdProc, Text: m.text(goodNames), Kids: []api.Node{{Kind: api.NdParams, Kids: params}, {Kind: api.NdDecls, Kids: vars}, m.body(deep)}}
}
