package parse

import "zermelo/api"

// statement is what stands for a statement that begins with a key word: a Kind, and what reads its Kids, up to the ; behind it.
type statement struct {
	kind int
	kids func(p *parser) []api.Node
}

// statements returns the statements that begin with a key word.
func statements() map[string]statement {
	nothing := func(*parser) []api.Node { return nil }
	return map[string]statement{
		"if":       {api.NdIf, (*parser).branching},
		"case":     {api.NdCase, (*parser).cases},
		"while":    {api.NdWhile, (*parser).repeated},
		"until":    {api.NdUntil, (*parser).repeated},
		"for":      {api.NdFor, (*parser).iteration},
		"loop":     {api.NdLoop, func(p *parser) []api.Node { return []api.Node{p.doing()} }},
		"quit":     {api.NdQuit, nothing},
		"continue": {api.NdContinue, nothing},
		"fail":     {api.NdFail, nothing},
		"succeed":  {api.NdSucceed, nothing},
		"stop":     {api.NdStop, nothing},
		"return":   {api.NdReturn, (*parser).returned},
		"assert":   {api.NdAssert, func(p *parser) []api.Node { return []api.Node{p.whole()} }},
		"print":    {api.NdPrint, (*parser).printed},
		"read":     {api.NdRead, (*parser).read},
	}
}

// body reads statements, as many as there are.
func (p *parser) body() api.Node {
	var kids []api.Node
	for {
		n, is := p.statement()
		if !is {
			return group(api.NdBody, kids...)
		}
		p.expect(";")
		kids = append(kids, n)
	}
}

// statement reads a statement up to its ; , if one begins at the position.
func (p *parser) statement() (n api.Node, is bool) {
	p.enter()
	defer p.leave()
	if s, is := p.statements[p.word()]; is {
		n := p.begin(s.kind)
		p.at++
		n.Kids = s.kids(p)
		return n, true
	}
	if p.word() == "[" {
		return p.assigned(p.left()), true
	}
	if p.token().Kind == api.TkName {
		return p.calling(), true
	}
	return api.Node{}, false
}

// calling reads a statement that begins with a name: a call, or something that is assigned to.
func (p *parser) calling() api.Node {
	n := p.follow(p.named(api.NdName), true)
	if n.Kind == api.NdSel && p.word() == ";" {
		return group(api.NdCall, n)
	}
	for x := n; x.Kind != api.NdName; x = x.Kids[0] {
		if len(x.Kids) == 1 {
			p.wrong() // what has no operands can only be called
		}
	}
	return p.assigned(n)
}

// assigned reads what is behind something that is assigned to.
func (p *parser) assigned(left api.Node) api.Node {
	sign := p.word()
	n, folds := p.folds[sign]
	from, takes := taking(sign)
	switch {
	case sign == ":=":
		p.at++
		return group(api.NdAssign, left, p.whole())
	case takes:
		p.at++
		x := group(api.NdFrom, left, p.place())
		x.N = from
		return x
	case folds && left.Kind != api.NdTuple:
		p.at++
		p.expect(":=")
		x := group(api.NdChange, left, p.whole())
		x.N = n
		return x
	}
	p.wrong()
	return api.Node{}
}

// taking returns the number of a word by which an element is taken.
func taking(word string) (int, bool) {
	switch word {
	case "from":
		return api.FrArb, true
	case "fromb":
		return api.FrFirst, true
	case "frome":
		return api.FrLast, true
	}
	return 0, false
}

// left reads what is assigned to.
func (p *parser) left() api.Node {
	if p.word() == "[" {
		return p.tuple(p.part)
	}
	return p.place()
}

// place reads what is assigned to and is no tuple.
func (p *parser) place() api.Node { return p.follow(p.named(api.NdName), false) }

// part reads a part of a tuple that is assigned to.
func (p *parser) part() api.Node {
	if p.word() == "-" {
		return p.leaf(api.NdSkip, 0)
	}
	return p.left()
}

// doing reads a body between do and end.
func (p *parser) doing() api.Node {
	p.expect("do")
	return p.ending()
}

// ending reads a body and the end behind it.
func (p *parser) ending() api.Node {
	n := p.body()
	p.expect("end")
	return n
}

// branching reads conditions and their bodies.
func (p *parser) branching() []api.Node {
	kids := p.branches(p.body)
	if p.accept("else") {
		other := p.body()
		kids = append(kids, other)
	}
	p.expect("end")
	return kids
}

// cases reads what a case looks at, and its branches.
func (p *parser) cases() []api.Node {
	kids := []api.Node{{Kind: api.NdNone}}
	if p.word() != "of" {
		kids[0] = p.whole()
	}
	p.expect("of")
	for more := true; more; more = p.word() == "when" {
		branch := p.when()
		kids = append(kids, branch)
	}
	if p.accept("otherwise") {
		other := p.body()
		kids = append(kids, other)
	}
	p.expect("end")
	return kids
}

// when reads a branch of a case.
func (p *parser) when() api.Node {
	n := p.begin(api.NdWhen)
	p.expect("when")
	values := p.begin(api.NdList)
	values.Kids = p.operands()
	p.expect(":")
	n.Kids = []api.Node{values, p.body()}
	return n
}

// repeated reads a condition and a body.
func (p *parser) repeated() []api.Node {
	condition := p.whole()
	return []api.Node{condition, p.doing()}
}

// iteration reads iterators, perhaps a condition, and a body.
func (p *parser) iteration() []api.Node {
	iters := p.iters()
	condition := p.condition()
	return []api.Node{iters, condition, p.doing()}
}

// returned reads the value that is returned, if there is one.
func (p *parser) returned() []api.Node {
	if p.word() == ";" {
		return nil
	}
	return []api.Node{p.whole()}
}

// printed reads what is printed.
func (p *parser) printed() []api.Node {
	p.expect("(")
	var kids []api.Node
	if p.word() != ")" {
		kids = p.operands()
	}
	p.expect(")")
	return kids
}

// read reads what input is assigned to.
func (p *parser) read() []api.Node {
	p.expect("(")
	kids := list(&p.position, api.MaxParams, p.left)
	p.expect(")")
	return kids
}
