package parse_test

import (
	"strconv"
	"strings"
	"testing"

	"zermelo/api"
	"zermelo/lex"
	"zermelo/parse"
)

// labels are short names of Kinds.
var labels = map[int]string{
	api.NdProgram: "program", api.NdModule: "module", api.NdExports: "exports", api.NdDecls: "decls", api.NdUses: "uses",
	api.NdVar: "var", api.NdConst: "const", api.NdProcs: "procs", api.NdProc: "proc", api.NdParams: "params", api.NdParam: "param",
	api.NdBody: "body", api.NdAssign: "assign", api.NdChange: "change", api.NdFrom: "from", api.NdIf: "if", api.NdCase: "case",
	api.NdWhen: "when", api.NdWhile: "while", api.NdUntil: "until", api.NdFor: "for", api.NdLoop: "loop", api.NdQuit: "quit",
	api.NdContinue: "continue", api.NdReturn: "return", api.NdFail: "fail", api.NdSucceed: "succeed", api.NdPrint: "print",
	api.NdRead: "read", api.NdAssert: "assert", api.NdStop: "stop", api.NdCall: "call",
	api.NdInt: "int", api.NdDec: "dec", api.NdStr: "str", api.NdName: "name", api.NdBool: "bool", api.NdOm: "om",
	api.NdNewat: "newat", api.NdOk: "ok", api.NdTuple: "tuple", api.NdSet: "set", api.NdRange: "range", api.NdFormer: "former",
	api.NdQuant: "quant", api.NdIters: "iters", api.NdIn: "in", api.NdAt: "at", api.NdImage: "image", api.NdUn: "un",
	api.NdBin: "bin", api.NdAnd: "and", api.NdOr: "or", api.NdImpl: "impl", api.NdElse: "else", api.NdFold: "fold",
	api.NdIfx: "ifx", api.NdSel: "sel", api.NdImg: "img", api.NdSlice: "slice", api.NdList: "list", api.NdSkip: "skip", api.NdNone: "none",
}

// shown writes a tree without lines: names, integers, decimals and strings as their Texts, all else as the name of its Kind, its N, its Text and its Kids.
func shown(n api.Node) string {
	switch n.Kind {
	case api.NdName, api.NdInt, api.NdDec:
		if n.N == 0 && len(n.Kids) == 0 {
			return n.Text
		}
	case api.NdStr:
		return strconv.Quote(n.Text)
	}
	s := labels[n.Kind]
	if s == "" {
		s = strconv.Itoa(n.Kind)
	}
	if n.N != 0 {
		s += "." + strconv.Itoa(n.N)
	}
	if n.Text != "" {
		s += ":" + n.Text
	}
	if len(n.Kids) == 0 {
		return s
	}
	var kids []string
	for _, x := range n.Kids {
		kids = append(kids, shown(x))
	}
	return s + "(" + strings.Join(kids, " ") + ")"
}

// lined writes a tree with its lines alone.
func lined(n api.Node) string {
	s := strconv.Itoa(n.Line)
	for i, x := range n.Kids {
		s += []string{"(", " "}[min(i, 1)] + lined(x)
	}
	if len(n.Kids) > 0 {
		s += ")"
	}
	return s
}

// expr returns the tree of an expression that has one.
func expr(t *testing.T, src string) api.Node {
	t.Helper()
	n, line, col, e := parse.Expr(src)
	if e != api.OK {
		t.Fatal(src, line, col, e)
	}
	return n
}

// body returns the tree of statements that have one.
func body(t *testing.T, src string) api.Node {
	t.Helper()
	n, line, col, e := parse.Body(src)
	if e != api.OK {
		t.Fatal(src, line, col, e)
	}
	return n
}

// unit returns the tree of a unit that has one.
func unit(t *testing.T, src string) api.Node {
	t.Helper()
	l, line, col, e := parse.Units(src)
	if e != api.OK || len(l) != 1 {
		t.Fatal(src, len(l), line, col, e)
	}
	return l[0]
}

// tokens returns the tokens of a source that has no error.
func tokens(t *testing.T, src string) []api.Token {
	t.Helper()
	l, at, e := lex.Scan(src)
	if e != api.OK {
		t.Fatal(src, at, e)
	}
	return l
}

// times repeats a text.
func times(n int, text string) string { return strings.Repeat(text, n) }

// several writes elements x1, x2 and so on, with something between.
func several(n int, between string) string {
	var l []string
	for i := range n {
		l = append(l, "x"+strconv.Itoa(i+1))
	}
	return strings.Join(l, between)
}

// zero reports whether a tree is the one that is returned with an error.
func zero(n api.Node) bool {
	return n.Kind == 0 && n.Text == "" && n.N == 0 && n.Line == 0 && len(n.Kids) == 0
}

// split splits a text at blanks.
func split(text string) []string { return strings.Fields(text) }
