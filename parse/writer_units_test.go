package parse_test

import "zermelo/api"

// unit writes a unit.
func (w *writer) unit(n api.Node) api.Node {
	if len(n.Kids) != 3 || n.Kind != api.NdProgram && n.Kind != api.NdModule {
		return w.broken(n)
	}
	line := w.add(labels[n.Kind])
	w.name(n.Text)
	w.add(";")
	var kids []api.Node
	if n.Kind == api.NdModule {
		kids = append(kids, w.exports(n.Kids[0]), w.decls(n.Kids[1]))
	} else {
		kids = append(kids, w.decls(n.Kids[0]), w.body(n.Kids[1]))
	}
	kids = append(kids, w.group(n.Kids[2], api.NdProcs, w.proc))
	w.words("end ;")
	return at(n, line, kids...)
}

// group writes Kids behind each other.
func (w *writer) group(n api.Node, kind int, write func(api.Node) api.Node) api.Node {
	if n.Kind != kind {
		return w.broken(n)
	}
	return of(n, w.several(n.Kids, "", write)...)
}

// exports writes what a module exports.
func (w *writer) exports(n api.Node) api.Node {
	if n.Kind != api.NdExports {
		return w.broken(n)
	}
	if len(n.Kids) == 0 {
		return of(n)
	}
	w.add("exports")
	n = of(n, w.several(n.Kids, ",", w.onlyName)...)
	w.add(";")
	return n
}

// onlyName writes a name.
func (w *writer) onlyName(n api.Node) api.Node {
	if n.Kind != api.NdName {
		return w.broken(n)
	}
	return at(n, w.name(n.Text), n.Kids...)
}

// decls writes declarations.
func (w *writer) decls(n api.Node) api.Node { return w.group(n, api.NdDecls, w.decl) }

// decl writes a declaration.
func (w *writer) decl(n api.Node) api.Node {
	if n.Kind != api.NdUses && n.Kind != api.NdVar && n.Kind != api.NdConst {
		return w.broken(n)
	}
	line := w.add(labels[n.Kind])
	var kids []api.Node
	if n.Kind == api.NdConst {
		w.name(n.Text)
		w.add("=")
		for _, x := range n.Kids {
			kids = append(kids, w.literal(x))
		}
	} else {
		kids = w.several(n.Kids, ",", w.onlyName)
	}
	w.add(";")
	return at(n, line, kids...)
}

// literal writes a literal, and never parentheses.
func (w *writer) literal(n api.Node) api.Node {
	if n.Kind == api.NdUn && len(n.Kids) == 1 && n.N == api.UnNeg {
		line := w.add("-")
		return at(n, line, w.plainly(n.Kids[0]))
	}
	return w.plainly(n)
}

// proc writes a procedure.
func (w *writer) proc(n api.Node) api.Node {
	if n.Kind != api.NdProc || len(n.Kids) != 3 || n.Kids[0].Kind != api.NdParams {
		return w.broken(n)
	}
	line := w.add("proc")
	w.name(n.Text)
	w.add("(")
	params := of(n.Kids[0], w.several(n.Kids[0].Kids, ",", w.param)...)
	w.words(") ;")
	decls := w.decls(n.Kids[1])
	body := w.body(n.Kids[2])
	w.words("end ;")
	return at(n, line, params, decls, body)
}

// param writes a parameter.
func (w *writer) param(n api.Node) api.Node {
	if n.Kind != api.NdParam || n.N < 0 || n.N > 2 {
		return w.broken(n)
	}
	from := len(w.list)
	if n.N > 0 || w.often(2) {
		w.add([]string{"rd", "wr", "rw"}[n.N])
	}
	w.name(n.Text)
	if len(w.list) == from {
		return w.broken(n)
	}
	return at(n, w.list[from].Line, n.Kids...)
}

// body writes statements.
func (w *writer) body(n api.Node) api.Node { return w.group(n, api.NdBody, w.statement) }

// statement writes a statement.
func (w *writer) statement(n api.Node) api.Node {
	n = w.simple(n)
	w.add(";")
	return n
}

// simple writes a statement up to its ; .
func (w *writer) simple(n api.Node) api.Node {
	many := len(n.Kids)
	switch n.Kind {
	case api.NdAssign, api.NdChange, api.NdFrom:
		return w.assignment(n)
	case api.NdCall:
		if many == 1 {
			return of(n, w.place(n.Kids[0]))
		}
	case api.NdIf, api.NdCase:
		return w.branching(n)
	case api.NdWhile, api.NdUntil:
		if many == 2 {
			line := w.add(labels[n.Kind])
			condition := w.expr(n.Kids[0])
			return at(n, line, condition, w.doing(n.Kids[1]))
		}
	case api.NdFor:
		if many == 3 {
			line := w.add("for")
			iters := w.iters(n.Kids[0])
			condition := w.condition(n.Kids[1])
			return at(n, line, iters, condition, w.doing(n.Kids[2]))
		}
	case api.NdLoop:
		if many == 1 {
			line := w.add("loop")
			return at(n, line, w.doing(n.Kids[0]))
		}
	case api.NdQuit, api.NdContinue, api.NdFail, api.NdSucceed, api.NdStop:
		return at(n, w.add(labels[n.Kind]), n.Kids...)
	case api.NdReturn, api.NdAssert:
		if many < 2 {
			line := w.add(labels[n.Kind])
			return at(n, line, w.several(n.Kids, "", w.expr)...)
		}
	case api.NdPrint, api.NdRead:
		write := map[int]func(api.Node) api.Node{api.NdPrint: w.expr, api.NdRead: w.left}[n.Kind]
		line := w.add(labels[n.Kind])
		w.add("(")
		kids := w.several(n.Kids, ",", write)
		w.add(")")
		return at(n, line, kids...)
	}
	return w.broken(n)
}

// doing writes the body of a loop.
func (w *writer) doing(n api.Node) api.Node {
	w.add("do")
	n = w.body(n)
	w.add("end")
	return n
}

// assignment writes a statement by which something is assigned.
func (w *writer) assignment(n api.Node) api.Node {
	if len(n.Kids) != 2 {
		return w.broken(n)
	}
	left := w.left(n.Kids[0])
	if n.Kind == api.NdFrom {
		if n.N < 0 || n.N > 2 {
			return w.broken(n)
		}
		w.add([]string{"from", "fromb", "frome"}[n.N])
		return of(n, left, w.left(n.Kids[1]))
	}
	if n.Kind == api.NdChange {
		w.add(foldSign(n.N))
	}
	w.add(":=")
	return of(n, left, w.expr(n.Kids[1]))
}

// branching writes a statement with conditions, or a case.
func (w *writer) branching(n api.Node) api.Node {
	var kids, rest []api.Node
	line := w.add(labels[n.Kind])
	other := "else"
	if n.Kind == api.NdIf {
		kids, rest = w.branches(n.Kids, w.body)
	} else {
		other = "otherwise"
		if len(n.Kids) == 0 {
			return w.broken(n)
		}
		kids, rest = []api.Node{at(n.Kids[0], 0, n.Kids[0].Kids...)}, n.Kids[1:]
		if n.Kids[0].Kind != api.NdNone {
			kids[0] = w.expr(n.Kids[0])
		}
		w.add("of")
		for len(rest) > 0 && rest[0].Kind == api.NdWhen {
			kids = append(kids, w.when(rest[0]))
			rest = rest[1:]
		}
	}
	if len(rest) > 1 {
		return w.broken(n)
	}
	for _, x := range rest {
		w.add(other)
		kids = append(kids, w.body(x))
	}
	w.add("end")
	return at(n, line, kids...)
}

// when writes a branch of a case.
func (w *writer) when(n api.Node) api.Node {
	if len(n.Kids) != 2 || n.Kids[0].Kind != api.NdList {
		return w.broken(n)
	}
	line := w.add("when")
	from := len(w.list)
	kids := w.several(n.Kids[0].Kids, ",", w.expr)
	first := 0
	if from < len(w.list) {
		first = w.list[from].Line
	}
	values := at(n.Kids[0], first, kids...)
	w.add(":")
	return at(n, line, values, w.body(n.Kids[1]))
}
