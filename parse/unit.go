package parse

import "zermelo/api"

// units reads units up to the end of the tokens.
func (p *parser) units() []api.Node {
	var l []api.Node
	for len(l) == 0 || !p.ended() {
		n := p.unit()
		l = append(l, n)
	}
	return l
}

// unit reads a program or a module.
func (p *parser) unit() api.Node {
	switch p.word() {
	case "program":
		return p.program()
	case "module":
		return p.module()
	}
	p.wrong()
	return api.Node{}
}

// program reads a program.
func (p *parser) program() api.Node {
	n := p.heading(api.NdProgram)
	p.expect(";")
	decls := p.decls("uses", "var", "const")
	body := p.body()
	n.Kids = []api.Node{decls, body, p.procs()}
	p.closing()
	return n
}

// module reads a module.
func (p *parser) module() api.Node {
	n := p.heading(api.NdModule)
	p.expect(";")
	var exports []api.Node
	if p.accept("exports") {
		exports = p.names()
		p.expect(";")
	}
	decls := p.decls("uses", "var", "const")
	n.Kids = []api.Node{group(api.NdExports, exports...), decls, p.procs()}
	p.closing()
	return n
}

// heading reads a key word and a name behind it.
func (p *parser) heading(kind int) api.Node {
	n := p.begin(kind)
	p.at++
	n.Text = p.name()
	return n
}

// closing reads the end of a unit or procedure.
func (p *parser) closing() {
	p.expect("end")
	p.expect(";")
}

// names reads names with commas between them.
func (p *parser) names() []api.Node {
	return list(&p.position, anyMany, func() api.Node { return p.named(api.NdName) })
}

// decls reads declarations that begin with one of some words, as many as there are.
func (p *parser) decls(words ...string) api.Node {
	var kids []api.Node
	for {
		n, is := p.decl(words)
		if !is {
			return group(api.NdDecls, kids...)
		}
		p.expect(";")
		kids = append(kids, n)
	}
}

// decl reads a declaration up to its ; , if one begins at the position.
func (p *parser) decl(words []string) (api.Node, bool) {
	for _, word := range words {
		if p.word() != word {
			continue
		}
		if word == "const" {
			return p.constant(), true
		}
		n := p.begin(api.NdVar)
		if word == "uses" {
			n.Kind = api.NdUses
		}
		p.at++
		n.Kids = p.names()
		return n, true
	}
	return api.Node{}, false
}

// constant reads the declaration of a constant.
func (p *parser) constant() api.Node {
	n := p.heading(api.NdConst)
	p.expect("=")
	n.Kids = []api.Node{p.literal()}
	return n
}

// literal reads a literal.
func (p *parser) literal() api.Node {
	n := p.begin(api.NdUn)
	negative := p.accept("-")
	kind := p.token().Kind
	number := kind == api.TkInt || kind == api.TkDec
	truth := p.word() == "true" || p.word() == "false"
	if !number && (negative || kind != api.TkStr && !truth) {
		p.wrong()
	}
	value := p.primary()
	if !negative {
		return value
	}
	n.N, n.Kids = api.UnNeg, []api.Node{value}
	return n
}

// procs reads procedures, as many as there are.
func (p *parser) procs() api.Node {
	var kids []api.Node
	for p.word() == "proc" {
		n := p.proc()
		kids = append(kids, n)
	}
	return group(api.NdProcs, kids...)
}

// proc reads a procedure.
func (p *parser) proc() api.Node {
	n := p.heading(api.NdProc)
	p.expect("(")
	var params []api.Node
	if p.word() != ")" {
		params = list(&p.position, api.MaxParams, p.param)
	}
	p.expect(")")
	p.expect(";")
	decls := p.decls("var")
	n.Kids = []api.Node{group(api.NdParams, params...), decls, p.body()}
	p.closing()
	return n
}

// param reads a parameter.
func (p *parser) param() api.Node {
	n := p.begin(api.NdParam)
	switch p.word() {
	case "rd":
		p.at++
	case "wr":
		p.at++
		n.N = api.MdWr
	case "rw":
		p.at++
		n.N = api.MdRw
	}
	n.Text = p.name()
	return n
}
