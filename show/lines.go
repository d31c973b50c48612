package show

import (
	"strings"

	"zermelo/api"
)

// page is a text of lines.
type page struct {
	strings.Builder
	writer
	layouts map[int]func(p *page, n api.Node)
	margin  string // the blanks in front of a line
}

// newPage returns a page without lines.
func newPage() *page {
	return &page{writer: writer{forms: formsOf()}, layouts: layouts()}
}

// line writes a line.
func (p *page) line(parts ...string) {
	p.WriteString(p.margin)
	for _, part := range parts {
		p.WriteString(part)
	}
	p.WriteByte('\n')
}

// indented writes what a body writes, two blanks further in.
func (p *page) indented(body func()) {
	margin := p.margin
	p.margin += "  "
	body()
	p.margin = margin
}

// write writes the lines of a node.
func (p *page) write(n api.Node) {
	if lay := p.layouts[n.Kind]; lay != nil {
		lay(p, n)
	} else {
		p.line(p.text(n), ";")
	}
}

// all writes the lines of nodes.
func (p *page) all(l []api.Node) {
	for _, n := range l {
		p.write(n)
	}
}

// within writes the lines of nodes two blanks further in.
func (p *page) within(l ...api.Node) {
	p.indented(func() { p.all(l) })
}

// block writes a line, nodes two blanks further in, and the end behind them.
func (p *page) block(head string, l ...api.Node) {
	p.line(head)
	p.within(l...)
	p.line("end;")
}

// layouts returns what stands for the Kinds that have lines of others in them.
func layouts() map[int]func(p *page, n api.Node) {
	kids := func(p *page, n api.Node) { p.all(n.Kids) }
	return map[int]func(p *page, n api.Node){
		api.NdProgram: func(p *page, n api.Node) { p.block("program "+n.Text+";", n.Kids...) },
		api.NdModule:  func(p *page, n api.Node) { p.block("module "+n.Text+";", n.Kids...) },
		api.NdExports: exports,
		api.NdDecls:   kids,
		api.NdProcs:   kids,
		api.NdProc:    procedure,
		api.NdBody:    kids,
		api.NdIf:      branching,
		api.NdCase:    cases,
		api.NdWhen:    when,
		api.NdWhile:   func(p *page, n api.Node) { p.block("while "+p.text(n.Kids[0])+" do", n.Kids[1]) },
		api.NdUntil:   func(p *page, n api.Node) { p.block("until "+p.text(n.Kids[0])+" do", n.Kids[1]) },
		api.NdFor:     iteration,
		api.NdLoop:    func(p *page, n api.Node) { p.block("loop do", n.Kids[0]) },
	}
}

// exports writes what a module exports, if it does.
func exports(p *page, n api.Node) {
	if len(n.Kids) > 0 {
		p.line("exports ", p.kids(n, 0), ";")
	}
}

// procedure writes a procedure.
func procedure(p *page, n api.Node) {
	p.block("proc "+n.Text+"("+p.text(n.Kids[0])+");", n.Kids[1:]...)
}

// branching writes conditions and their bodies.
func branching(p *page, n api.Node) {
	word := "if "
	rest := n.Kids
	for ; len(rest) > 1; rest = rest[2:] {
		p.line(word, p.text(rest[0]), " then")
		p.within(rest[1])
		word = "elseif "
	}
	if len(rest) > 0 {
		p.line("else")
		p.within(rest[0])
	}
	p.line("end;")
}

// cases writes a case and its branches.
func cases(p *page, n api.Node) {
	if n.Kids[0].Kind == api.NdNone {
		p.line("case of")
	} else {
		p.line("case ", p.text(n.Kids[0]), " of")
	}
	for _, kid := range n.Kids[1:] {
		if kid.Kind == api.NdBody {
			p.line("otherwise")
			p.within(kid)
		} else {
			p.write(kid)
		}
	}
	p.line("end;")
}

// when writes a branch of a case.
func when(p *page, n api.Node) {
	p.line("when ", p.text(n.Kids[0]), ":")
	p.within(n.Kids[1])
}

// iteration writes a loop over iterators.
func iteration(p *page, n api.Node) {
	iters := p.text(n.Kids[0])
	p.block("for "+p.under(iters, n.Kids[1])+" do", n.Kids[2])
}

// laid returns the lines of a node.
func laid(n api.Node) string {
	p := newPage()
	p.write(n)
	return p.String()
}
