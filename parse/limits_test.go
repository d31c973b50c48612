package parse_test

import (
	"strings"
	"testing"

	"zermelo/api"
	"zermelo/lex"
	"zermelo/parse"
)

// Limits: lists of elements have at most 8 of them; the error is at the comma ahead of the ninth one.
func TestLists(t *testing.T) {
	for _, c := range []struct{ ahead, behind string }{
		{"x := [", "];"}, {"x := {", "};"}, {"x := f(", ");"}, {"x := f{", "};"}, {"f(", ");"}, {"f(", ") := 1;"}, {"f{", "} := 1;"}, {"print(", ");"}, {"read(", ");"},
		{"case of when ", ": end;"}, {"[", "] := 1;"}, {"[a, [", "]] := 1;"}, {"for [", "] in s do end;"}, {"x := {y : [", "] in s};"}, {"x := {y : [[", "]] in s};"}, {"x := {[", "] in s | c};"},
		{"x := {y : y = f(1)(", ")(x)};"}, {"x := f(1)(", ");"}, {"x := [[1, 2], [", "]];"}, {"case y of when ", ": end;"},
	} {
		for _, many := range []int{7, 8, 9, 10} {
			src := c.ahead + several(many, ",") + c.behind
			_, line, col, e := parse.Body(src)
			comma := len(c.ahead) + len(several(8, ",")) + 1
			if many <= 8 && e != api.OK || many > 8 && (e != api.ErrLimit || line != 1 || col != comma) {
				t.Error(src, line, col, e, comma)
			}
			cut := src[:min(len(src), comma)] // the comma is the last byte
			if _, _, col, e := parse.Body(cut); many > 8 && (e != api.ErrLimit || col != comma) {
				t.Error(cut, col, e)
			}
		}
	}
	for _, many := range []int{8, 9} {
		src := "module m; proc f(" + several(many, ",") + "); end; end;"
		_, line, col, e := parse.Units(src)
		if many == 8 && e != api.OK || many == 9 && (e != api.ErrLimit || line != 1 || col != 18+len(several(8, ","))) {
			t.Error(src, line, col, e)
		}
	}
	for _, src := range []string{"program p; var " + several(100, ",") + "; end;", "program p; uses " + several(100, ",") + "; end;", "module m; exports " + several(100, ",") + "; end;",
		"program p; for " + strings.ReplaceAll(several(50, ","), ",", " in s,") + " in s do end; end;"} {
		if _, _, _, e := parse.Units(src); e != api.OK {
			t.Error(src, e)
		}
	}
}

// Limits: what comes first counts.
func TestFirstError(t *testing.T) {
	nine := several(9, ",")
	comma := len(several(8, ",")) + 1
	for _, c := range []struct {
		src string
		col int
		e   api.Errno
	}{
		{"x := [" + nine + " +];", 6 + comma, api.ErrLimit},
		{"x := [" + several(8, ",") + ", ];", 6 + comma, api.ErrLimit},
		{"x := [" + several(8, ",") + " .. 1];", 7 + comma, api.ErrSyntax},
		{"x = [" + nine + "];", 3, api.ErrSyntax},
		{"x := [y y, " + nine + "];", 9, api.ErrSyntax},
		{"[" + several(8, ",") + ", f()] := 1;", 1 + comma, api.ErrLimit},
		{"read(" + several(8, ",") + ", -);", 5 + comma, api.ErrLimit},
		{"[" + several(8, ",") + ", -, -] := 1;", 1 + comma, api.ErrLimit},
		{"x := f(" + nine + ")} ;", 7 + comma, api.ErrLimit},
	} {
		if _, line, col, e := parse.Body(c.src); line != 1 || col != c.col || e != c.e {
			t.Error(c.src, line, col, e, c.col, c.e)
		}
	}
}

// sized writes an expression whose tree has so many nodes.
func sized(many int) string {
	if many <= 40 {
		return times(many-1, "- ") + "x"
	}
	var parts []string
	many--
	for left := 8; left > 0; left-- {
		parts = append(parts, sized(many/left))
		many -= many / left
	}
	return "[" + strings.Join(parts, ", ") + "]"
}

// Limits: trees have at most 4000 nodes, and are at most 60 deep; this error has no place, and comes last.
func TestTreeLimits(t *testing.T) {
	for _, many := range []int{100, 1000, 4000, 4001} {
		want := map[bool]api.Errno{true: api.ErrLimit, false: api.OK}[many > api.MaxTree]
		n, line, col, e := parse.Expr(sized(many))
		if e != want || e == api.OK && parse.Size(n) != many || e != api.OK && (line != 1 || col != 1 || !zero(n)) {
			t.Error(many, line, col, e)
		}
		src := "assert " + sized(many-2) + ";"
		if n, line, col, e = parse.Body(src); e != want || e == api.OK && parse.Size(n) != many || e != api.OK && (line != 1 || col != 1) {
			t.Error(many, line, col, e)
		}
		if _, line, col, e := parse.Body(" \n" + src + " stop"); line != 2 || col < 100 || e != api.ErrSyntax {
			t.Error(many, line, col, e)
		}
		src = "\nprogram p; assert " + sized(many-5) + "; end;"
		l, line, col, e := parse.Units(src)
		if e != want || e == api.OK && parse.Size(l[0]) != many || e != api.OK && (line != 1 || col != 1 || l != nil) {
			t.Error(many, line, col, e)
		}
		all := append(tokens(t, "program q; end;"), tokens(t, src)...)
		if l, at, e := parse.Tokens(all); e != want || at != 0 || e != api.OK && l != nil {
			t.Error(many, at, e)
		}
		if _, at, e := parse.Tokens(all[:len(all)-1]); at != len(all)-1 || e != api.ErrSyntax {
			t.Error(many, at, e)
		}
	}
	for _, deep := range []int{1, 59, 60, 61, 500} {
		want := map[bool]api.Errno{true: api.ErrLimit, false: api.OK}[deep > api.MaxNest]
		for _, src := range []string{times(deep-1, "- ") + "x", times(deep-1, "[") + "x" + times(deep-1, "]"), times(deep-1, "x + ") + "x", times(deep-1, "x impl ") + "x", "f" + times(deep-1, "(x)")} {
			n, line, col, e := parse.Expr(src)
			if e != want || e == api.OK && parse.Depth(n) != deep || e != api.OK && (line != 1 || col != 1) {
				t.Error(src, line, col, e)
			}
		}
	}
}

// Limits: a tree that is too large, or too deep, is accepted by no check; one that has not the form, neither.
func TestCheckLimits(t *testing.T) {
	x := api.Node{Kind: api.NdName, Text: "x"}
	wide := func(many int) api.Node {
		n := api.Node{Kind: api.NdVar}
		for range many - 5 {
			n.Kids = append(n.Kids, x)
		}
		return api.Node{Kind: api.NdModule, Text: "m", Kids: []api.Node{{Kind: api.NdExports}, {Kind: api.NdDecls, Kids: []api.Node{n}}, {Kind: api.NdProcs}}}
	}
	lefts := func(deep int) api.Node {
		n := x
		for range deep - 1 {
			n = api.Node{Kind: api.NdTuple, Kids: []api.Node{n}}
		}
		return n
	}
	long := api.Node{Kind: api.NdBody}
	for range api.MaxTree - 1 {
		long.Kids = append(long.Kids, api.Node{Kind: api.NdStop})
	}
	longer := api.Node{Kind: api.NdBody, Kids: append([]api.Node{{Kind: api.NdStop}}, long.Kids...)}
	for i, c := range []struct{ got, want api.Errno }{
		{parse.CheckUnit(wide(4000)), api.OK},
		{parse.CheckUnit(wide(4001)), api.ErrLimit},
		{parse.CheckUnit(wide(5)), api.ErrForm},
		{parse.CheckLeft(lefts(60)), api.OK},
		{parse.CheckLeft(lefts(61)), api.ErrLimit},
		{parse.CheckExpr(lefts(60)), api.OK},
		{parse.CheckExpr(lefts(61)), api.ErrLimit},
		{parse.CheckBody(long), api.OK},
		{parse.CheckBody(longer), api.ErrLimit},
		{parse.CheckExpr(longer), api.ErrForm},
		{parse.CheckExpr(api.Node{Kind: api.NdSet, Kids: []api.Node{lefts(61), {Kind: api.NdSkip}}}), api.ErrForm},
	} {
		if c.got != c.want {
			t.Error(i, c.got, c.want)
		}
	}
}

// P8.3: lines are from 0 to 100000.
func TestCheckLines(t *testing.T) {
	good := expr(t, "{x in f(1) | x ? [y]}")
	for line, want := range map[int]api.Errno{-1: api.ErrForm, 0: api.OK, 1: api.OK, 77: api.OK, 100000: api.OK, 100001: api.ErrForm} {
		for _, path := range [][]int{{}, {0}, {1, 0, 1}, {2, 1, 0}} {
			n, _ := parse.At(good, path)
			n.Line = line
			tree, e := parse.Put(good, path, n)
			if e != api.OK || parse.CheckExpr(tree) != want {
				t.Error(line, path, e, parse.CheckExpr(tree))
			}
		}
	}
}

// P8.2: sources, and their errors.
func TestSources(t *testing.T) {
	long := "program p; end; $" + times(api.MaxSource, "x")
	many := times(6000, "; ")
	for _, c := range []struct {
		src       string
		line, col int
		e         api.Errno
	}{
		{long, 0, 0, api.ErrLimit},
		{"!" + long, 0, 0, api.ErrLimit},
		{long[:api.MaxSource], 0, 0, api.OK},
		{"!" + long[:api.MaxSource-1], 1, 1, api.ErrByte},
		{"!" + long[:api.MaxSource], 0, 0, api.ErrLimit},
		{many + ";", 1, 12001, api.ErrLimit},
		{many, 1, 1, api.ErrSyntax},
		{"program p; x := \"a\n", 1, 17, api.ErrQuote},
		{"program p;\n ! end;", 2, 2, api.ErrByte},
		{"program p;\n\n  end", 3, 6, api.ErrSyntax},
		{"program p;\n\n  end\n $ x\n", 5, 1, api.ErrSyntax},
		{"program p;\n x := + y; end;", 2, 9, api.ErrSyntax},
		// definitions of macros
		{"macro m; x endm; program p;\n y := m; end;", 0, 0, api.OK},
		{"program p; y := m; macro m; x endm; end;", 0, 0, api.OK},
		{"macro m; x endm program p; end;", 1, 17, api.ErrMacro},
		{"program p; end;\nmacro m; x", 2, 11, api.ErrMacro},
		{"program p; end;\nmacro m; x \n\n", 4, 1, api.ErrMacro},
		{"program p;\nendm; end;", 2, 1, api.ErrMacro},
		{"program !;\nendm; end;", 1, 9, api.ErrByte},
		{"end end\n macro 1;", 2, 8, api.ErrMacro},
		{"macro m; x endm;\n  macro m; y endm; end end", 2, 3, api.ErrTwice},
		{strings.Repeat("macro m; x endm;", 101), 1, 1, api.ErrLimit},
		{" \n " + strings.Repeat("macro m; x endm;", 101), 2, 2, api.ErrLimit},
		// uses of macros
		{"macro m(x); x endm; program p;\n y := m; end;", 2, 7, api.ErrActuals},
		{"macro m(x); x endm; program p;\n y := m(1, 2); end", 2, 7, api.ErrActuals},
		{"program p; \n y := m; macro m; m endm;", 2, 7, api.ErrDeep},
		{"macro m; m endm; end end\n m", 2, 2, api.ErrDeep},
		// errors in what has been expanded
		{"macro m;\n x + endm; program p;\n y := m; end;", 3, 8, api.ErrSyntax},
		{"macro m;\n x y endm; program p;\n y := m; end;", 2, 4, api.ErrSyntax},
		{"macro m(x); x endm; program p;\n y := m(\n 1 2); end;", 3, 4, api.ErrSyntax},
		{"macro m; program p; x := 1 endm; m\n\n", 3, 1, api.ErrSyntax},
		{"macro m; x endm;", 1, 17, api.ErrSyntax},
		{"program p; include \"x\"; end;", 1, 12, api.ErrSyntax},
		{"program p; f(1,2,3,4,5,6,7,8\n,9); end;", 2, 1, api.ErrLimit},
	} {
		l, line, col, e := parse.Units(c.src)
		if line != c.line || col != c.col || e != c.e || e != api.OK && l != nil {
			t.Errorf("%.60q: %d, %d, %d, not %d, %d, %d", c.src, line, col, e, c.line, c.col, c.e)
		}
	}
}

// P8.2: Expr and Body have the errors of sources, too, and no macros.
func TestOtherSources(t *testing.T) {
	long := "x $" + times(api.MaxSource, "x")
	for _, c := range []struct {
		src       string
		line, col int
		e         api.Errno
	}{
		{long, 0, 0, api.ErrLimit},
		{times(6000, "x ") + "x", 1, 12001, api.ErrLimit},
		{"x\n  ! +", 2, 3, api.ErrByte},
		{"x :=\n  \"a", 2, 3, api.ErrQuote},
		{"\n1" + times(380, "0"), 2, 1, api.ErrLong},
		{"\nmacro m; x endm; 1", 2, 1, api.ErrSyntax},
		{"\n endm", 2, 2, api.ErrSyntax},
		{"\n include \"a\";", 2, 2, api.ErrSyntax},
	} {
		n, line, col, e := parse.Expr(c.src)
		if line != c.line || col != c.col || e != c.e || !zero(n) {
			t.Errorf("%.60q: %d, %d, %d", c.src, line, col, e)
		}
		n, line, col, e = parse.Body(c.src)
		if line != c.line || col != c.col || e != c.e || !zero(n) {
			t.Errorf("%.60q: %d, %d, %d", c.src, line, col, e)
		}
	}
	if n, _, _, e := parse.Expr(long[:api.MaxSource]); e != api.OK || shown(n) != "x" {
		t.Error(shown(n), e)
	}
	if _, _, _, e := parse.Body(times(3000, "stop;")); e != api.OK {
		t.Error(e)
	}
	if l, _, _ := lex.Scan(times(3000, "stop;")); len(l) != 6000 {
		t.Error(len(l))
	}
}

// Nesting that is far deeper than a tree may be is read to its end, and parentheses can be as deep as tokens can.
func TestDeep(t *testing.T) {
	const deep = 1 << 16
	name := api.Token{Kind: api.TkName, Text: "x", Line: 1}
	around := func(open, close string, many int) []api.Token {
		l := tokens(t, "program p; x :=")
		for range many {
			for _, text := range split(open) {
				l = append(l, token(text))
			}
		}
		l = append(l, name)
		for range many {
			for _, text := range split(close) {
				l = append(l, token(text))
			}
		}
		return append(l, tokens(t, "; end;")...)
	}
	for _, c := range []struct {
		open, close string
		many        int
		e           api.Errno
	}{
		{"(", ")", deep, api.OK},
		{"[", "]", deep, api.ErrLimit},
		{"x (", ")", deep, api.ErrLimit},
		{"x +", "", deep, api.ErrLimit},
		{"-", "", deep, api.ErrLimit},
		{"{ x in", "}", deep, api.ErrLimit},
	} {
		l := around(c.open, c.close, c.many)
		if _, at, e := parse.Tokens(l); at != 0 || e != c.e {
			t.Error(c.open, at, e)
		}
		if _, at, e := parse.Tokens(l[:len(l)-1]); at != len(l)-1 || e != api.ErrSyntax {
			t.Error(c.open, at, e)
		}
	}
	if _, _, e := parse.Tokens(around("(", ")", 200001)); e != api.ErrLimit {
		t.Error(e)
	}
}

// Lists of tokens that are long, but not deep, are read to their end.
func TestLong(t *testing.T) {
	for _, c := range [][3]string{
		{"program x ; x := x", "( x , x )", "; end ;"},
		{"program x ;", "stop ;", "end ;"},
		{"program x ; for x in x", ", [ x ] in x", "do end ; end ;"},
	} {
		var l []api.Token
		for i, many := range []int{1, 210000, 1} {
			var part []api.Token
			for _, text := range split(c[i]) {
				part = append(part, token(text))
			}
			for range many {
				l = append(l, part...)
			}
		}
		if _, at, e := parse.Tokens(l); at != 0 || e != api.ErrLimit {
			t.Error(c, at, e)
		}
		if _, at, e := parse.Tokens(l[:len(l)-1]); at != len(l)-1 || e != api.ErrSyntax {
			t.Error(c, at, e)
		}
	}
}
