package parse

import (
	"math"

	"zermelo/api"
)

// anyMany is how long lists without a limit can be.
const anyMany = math.MaxInt

// primary reads a primary that is no quantifier.
func (p *parser) primary() api.Node {
	if kind, n := leafOf(p.token()); kind > 0 {
		return p.leaf(kind, n)
	}
	var read func() api.Node
	switch p.word() {
	case "if":
		read = p.choice
	case "(":
		read = p.parentheses
	case "[":
		read = p.sequence
	case "{":
		read = p.set
	default:
		p.wrong()
	}
	return read()
}

// leafOf returns the Kind and the number of the node that a token is by itself; 0, if it is none.
func leafOf(t api.Token) (kind, n int) {
	switch t.Kind {
	case api.TkInt:
		return api.NdInt, 0
	case api.TkDec:
		return api.NdDec, 0
	case api.TkStr:
		return api.NdStr, 0
	case api.TkName:
		return api.NdName, 0
	}
	switch word(t) {
	case "true":
		return api.NdBool, 1
	case "false":
		return api.NdBool, 0
	case "om":
		return api.NdOm, 0
	case "newat":
		return api.NdNewat, 0
	case "ok":
		return api.NdOk, 0
	}
	return 0, 0
}

// leaf passes over a token that is a node by itself.
func (p *parser) leaf(kind, n int) api.Node {
	t := p.token()
	p.at++
	if word(t) != "" {
		t.Text = ""
	}
	return api.Node{Kind: kind, Text: t.Text, N: n, Line: t.Line}
}

// parentheses reads an expression in parentheses.
func (p *parser) parentheses() api.Node {
	p.at++
	n := p.whole()
	p.expect(")")
	return n
}

// choice reads an expression with conditions.
func (p *parser) choice() api.Node {
	n := p.begin(api.NdIfx)
	p.at++
	kids := p.branches(p.whole)
	p.expect("else")
	last := p.whole()
	p.expect("end")
	n.Kids = append(kids, last)
	return n
}

// branches reads conditions, and what each one leads to.
func (p *parser) branches(read func() api.Node) []api.Node {
	var kids []api.Node
	for more := true; more; more = p.accept("elseif") {
		condition := p.whole()
		p.expect("then")
		kids = append(kids, condition, read())
	}
	return kids
}

// sequence reads what stands in the brackets of a tuple.
func (p *parser) sequence() api.Node { return p.brackets(api.NdTuple, api.VTup, "]") }

// set reads what stands in the brackets of a set.
func (p *parser) set() api.Node { return p.brackets(api.NdSet, api.VSet, "}") }

// brackets reads what stands in brackets: elements, a range, or a former.
func (p *parser) brackets(kind, sort int, closing string) api.Node {
	n := p.begin(kind)
	p.at++
	if !p.accept(closing) {
		first := p.whole()
		p.fill(&n, first, sort)
		p.expect(closing)
	}
	return n
}

// fill completes the node of brackets behind their first expression.
func (p *parser) fill(n *api.Node, first api.Node, sort int) {
	switch p.word() {
	case ":":
		p.at++
		iters := p.iters()
		n.Kids = []api.Node{first, iters, p.condition()}
		n.Kind, n.N = api.NdFormer, sort
	case "|":
		n.Kids = p.chosen(first)
		n.Kind, n.N = api.NdFormer, sort
	default:
		n.Kids = p.operands(first)
		if len(n.Kids) <= 2 && p.accept("..") {
			last := p.whole()
			n.Kids = append(n.Kids, last)
			n.Kind, n.N = api.NdRange, sort
		}
	}
}

// condition reads the condition behind iterators, if there is one.
func (p *parser) condition() api.Node {
	if p.accept("|") {
		return p.whole()
	}
	return api.Node{Kind: api.NdNone}
}

// chosen reads the condition of a former that began with an iteration over a set, and returns its Kids.
func (p *parser) chosen(first api.Node) []api.Node {
	if first.Kind != api.NdBin || first.N != api.BiIn || !plain(first.Kids[0]) {
		p.wrong()
	}
	p.at++
	iters := group(api.NdIters, group(api.NdIn, first.Kids...))
	return []api.Node{copied(first.Kids[0]), iters, p.whole()}
}

// plain reports whether a tree is a plain pattern.
func plain(n api.Node) bool {
	for x := range nodes(n) {
		if x.Kind != api.NdName && (x.Kind != api.NdTuple || len(x.Kids) == 0) {
			return false
		}
	}
	return true
}

// iters reads iterators.
func (p *parser) iters() api.Node {
	return group(api.NdIters, list(&p.position, anyMany, p.iter)...)
}

// iter reads an iterator.
func (p *parser) iter() api.Node {
	pattern := p.pattern()
	if p.accept("in") {
		return group(api.NdIn, pattern, p.whole())
	}
	p.expect("=")
	n := p.follow(p.primary(), true)
	if len(n.Kids) == 2 && plain(n.Kids[1]) {
		switch n.Kind {
		case api.NdSel:
			return group(api.NdAt, pattern, n.Kids[0], n.Kids[1])
		case api.NdImg:
			return group(api.NdImage, pattern, n.Kids[0], n.Kids[1])
		}
	}
	p.wrong() // one more selection could have followed
	return api.Node{}
}

// pattern reads a pattern.
func (p *parser) pattern() api.Node {
	switch p.word() {
	case "-":
		return p.leaf(api.NdSkip, 0)
	case "[":
		return p.tuple(p.pattern)
	}
	return p.named(api.NdName)
}

// tuple reads parts in brackets.
func (p *parser) tuple(part func() api.Node) api.Node {
	p.enter()
	n := p.begin(api.NdTuple)
	p.at++
	n.Kids = list(&p.position, api.MaxParams, part)
	p.expect("]")
	p.leave()
	return n
}

// named reads a name that is a node of its own.
func (p *parser) named(kind int) api.Node {
	n := p.begin(kind)
	n.Text = p.name()
	return n
}
