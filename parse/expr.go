package parse

import "zermelo/api"

// parser reads trees from a position on.
type parser struct {
	position
	ahead      map[string]*formed   // forms that begin with an operator
	between    map[string]*formed   // forms with an operator between two operands
	folds      map[string]int       // the operators that fold
	statements map[string]statement // statements that begin with a key word
}

// newParser returns a parser of tokens.
func newParser(l []api.Token) *parser {
	return &parser{
		position:   position{tokens: l},
		ahead:      byOperator(false),
		between:    byOperator(true),
		folds:      foldNumbers(),
		statements: statements(),
	}
}

// operator returns the operator at the position, and how many tokens it has: with a / directly behind it, it is one of a fold.
func (p *parser) operator() (string, int) {
	sign := p.word()
	if p.folds[sign] > 0 && p.next() == "/" {
		return fold(sign), 2
	}
	return sign, 1
}

// whole reads an expression of any level.
func (p *parser) whole() api.Node { return p.expr(1) }

// expr reads an expression of a level, from 1 to 8.
func (p *parser) expr(level int) api.Node {
	p.enter()
	first, has := p.operand(level)
	for {
		sign, many := p.operator()
		f, is := p.between[sign]
		if !is || f.level < level || f.first > has {
			break
		}
		p.at += many
		last := f.last(p)
		first = group(f.kind, first, last)
		first.N, has = f.n, f.level
	}
	p.leave()
	return first
}

// operand reads an expression of a level that is no operation of two operands, and returns its level, too.
func (p *parser) operand(level int) (api.Node, int) {
	sign, many := p.operator()
	f, is := p.ahead[sign]
	if is && f.level >= level {
		n := p.begin(f.kind)
		p.at += many
		n.N, n.Kids = f.n, []api.Node{f.last(p)}
		return n, f.level
	}
	if !is && p.folds[sign] > 0 {
		p.at++ // only a / could follow: that is where nothing derived goes on
		p.wrong()
	}
	return p.post(), postLevel
}

// post reads a primary, and what follows it.
func (p *parser) post() api.Node {
	kind, is := quantifier(p.word())
	if is {
		return p.quantified(kind)
	}
	return p.follow(p.primary(), true)
}

// quantified reads an expression that begins with a quantifier.
func (p *parser) quantified(kind int) api.Node {
	n := p.begin(api.NdQuant)
	p.at++
	iters := p.iters()
	p.expect("|")
	n.N, n.Kids = kind, []api.Node{iters, p.whole()}
	return n
}

// quantifier returns the kind of a quantifier.
func quantifier(word string) (int, bool) {
	switch word {
	case "exists":
		return api.QtExists, true
	case "forall":
		return api.QtForall, true
	case "notexists":
		return api.QtNotexists, true
	}
	return 0, false
}

// follow reads the selections, images and slices that follow a node; selections may be empty, or not.
func (p *parser) follow(n api.Node, empty bool) api.Node {
suffixes:
	for {
		switch p.word() {
		case "(":
			n = p.selection(n, empty)
		case "{":
			p.at++
			n = group(api.NdImg, p.exprs(n)...)
			p.expect("}")
		default:
			break suffixes
		}
	}
	return n
}

// exprs reads expressions with commas between them, and returns them behind a node.
func (p *parser) exprs(n api.Node) []api.Node {
	return append([]api.Node{n}, p.operands()...)
}

// operands reads expressions with commas between them; the first ones may have been read already.
func (p *parser) operands(l ...api.Node) []api.Node {
	return list(&p.position, api.MaxParams, p.whole, l...)
}

// selection reads the parentheses behind a node: a selection, or a slice.
func (p *parser) selection(n api.Node, empty bool) api.Node {
	p.at++
	if empty && p.accept(")") {
		return group(api.NdSel, n)
	}
	first := p.whole()
	if p.accept("..") {
		last := api.Node{Kind: api.NdNone}
		if p.word() != ")" {
			last = p.whole()
		}
		n = group(api.NdSlice, n, first, last)
	} else {
		n = group(api.NdSel, append([]api.Node{n}, p.operands(first)...)...)
	}
	p.expect(")")
	return n
}
