package parse_test

import (
	"math/rand"
	"slices"
	"strings"
	"testing"

	"zermelo/api"
	"zermelo/lex"
	"zermelo/macro"
	"zermelo/parse"
)

// P8.1: the lines of nodes.
func TestLines(t *testing.T) {
	for _, c := range [][2]string{
		{"\nx", "2"},
		{"(\nx\n)", "2"},
		{"(\nx) +\n y", "2(2 3)"},
		{"\n-\nx", "2(3)"},
		{"not\nx", "1(2)"},
		{"(\nx)\n+ / y", "2(2 3)"},
		{"+ /\n y", "1(2)"},
		{"(\na) and (\nb) or c impl d ?\n e", "2(2(2(2 3) 3) 3(3 4))"},
		{"(\nf)(\nx)", "2(2 3)"},
		{"(\nf){\nx}", "2(2 3)"},
		{"(\nf)(\nx ..\n)", "2(2 3 0)"},
		{"(\nf)(x ..\ny)", "2(2 2 3)"},
		{"[\n]", "1"},
		{"[\nx,\ny]", "1(2 3)"},
		{"{\nx}", "1(2)"},
		{"[\nx ..\ny]", "1(2 3)"},
		{"[\nx :\ny in\n z]", "1(2 3(3(3 4)) 0)"},
		{"[\nx :\ny in\n z |\n c]", "1(2 3(3(3 4)) 5)"},
		{"{x :\n[\ny] in\n z, \n- = \nf(\ny)}", "1(1 2(2(2(3) 4) 5(5 6 7)) 0)"},
		{"{x : y = (\nf)\n{x}}", "1(1 1(1(1 2 3)) 0)"},
		{"{\nx in s |\n c}", "1(2 2(2(2 2)) 3)"},
		{"{\n(\n[x] in\n s) |\n c}", "1(3(3) 3(3(3(3) 4)) 5)"},
		{"exists\nx in s\n|\n(\nc)", "1(2(2(2 2)) 5)"},
		{"if\na then\nb else\nc end", "1(2 3 4)"},
	} {
		if s := lined(expr(t, c[0])); s != c[1] {
			t.Errorf("%q: %s, not %s", c[0], s, c[1])
		}
	}
	for _, c := range [][2]string{
		{"\n$\n", "0"},
		{"\nx\n:=\ny;", "2(2(2 4))"},
		{"\n[\nx] from\ny;", "2(2(2(3) 4))"},
		{"x\n+\n:=\n1;", "1(1(1 4))"},
		{"\nf\n(\nx)\n;", "2(2(2(2 4)))"},
		{"\nif\na then\n\nstop; else end;", "2(2(3 5(5) 0))"},
		{"\ncase\n of when\n(\na),\nb : otherwise\nstop; end;", "2(2(0 3(4(5 6) 0) 7(7)))"},
		{"for\nx in s\ndo\nend;", "1(1(2(2(2 2)) 0 0))"},
		{"while\nx do\nstop; end;", "1(1(2 3(3)))"},
		{"loop\ndo\nend;", "1(1(0))"},
		{"print\n(\nx);return\n;return\n1;", "1(1(3) 3 4(5))"},
		{"read(\n[\nx, \n-]);", "1(1(2(3 4)))"},
	} {
		if s := lined(body(t, c[0])); s != c[1] {
			t.Errorf("%q: %s, not %s", c[0], s, c[1])
		}
	}
	for _, c := range [][2]string{
		{"\nprogram\np\n; end;", "2(0 0 0)"},
		{"program p;\nuses\nm; var\nx; const\nc =\n-\n1;\nstop;\nproc\nf(\nrd\na); end; end;", "1(2(2(3) 3(4) 4(6(7))) 8(8) 9(9(11(11) 0 0)))"},
		{"module\nm; exports\nf; proc f(\na); var\nx;\nstop; end; end;", "1(3(3) 0 3(3(4(4) 4(4(5)) 6(6))))"},
	} {
		if s := lined(unit(t, c[0])); s != c[1] {
			t.Errorf("%q: %s, not %s", c[0], s, c[1])
		}
	}
}

// P8.7: an expression in parentheses has its tree; an operator with operands in parentheses has theirs; the parentheses can be left out, where the promise says so.
func TestParentheses(t *testing.T) {
	chance := rand.New(rand.NewSource(6))
	m := maker{chance}
	source := func(n api.Node) string {
		w := &writer{line: 1}
		w.expr(n)
		src, e := lex.Join(w.list)
		if e != api.OK || strings.Contains(written(w.list), "#") {
			return ""
		}
		return src
	}
	tried := 0
	for range 6000 {
		a, b := m.expr(2), m.expr(2)
		x, y := source(a), source(b)
		if x == "" || y == "" || parse.Depth(a) > 50 || parse.Depth(b) > 50 {
			continue
		}
		if n := expr(t, "("+x+")"); !parse.Same(n, a) {
			t.Fatal(x, shown(n), shown(a))
		}
		r := table[chance.Intn(len(table))]
		i := chance.Intn(len(r.numbers))
		sign := split(r.signs)[i]
		want := api.Node{Kind: r.kind, N: r.numbers[i], Kids: []api.Node{a, b}}
		full, bare := "("+x+") "+sign+" ("+y+")", x+" "+sign+" "+y
		if r.first == 0 {
			want.Kids = want.Kids[1:]
			full, bare = sign+" ("+y+")", sign+" "+y
		}
		if n := expr(t, full); !parse.Same(n, want) {
			t.Fatal(full, shown(n), shown(want))
		}
		if (r.first == 0 || levelOf(a) >= r.first) && levelOf(b) >= r.last && y[0] != '/' {
			tried++
			if n := expr(t, bare); !parse.Same(n, want) {
				t.Fatal(bare, shown(n), shown(want))
			}
		}
	}
	if tried < 500 {
		t.Error(tried)
	}
}

// P8.8: units behind each other.
func TestUnitsBehindEachOther(t *testing.T) {
	m := maker{rand.New(rand.NewSource(7))}
	k := kindsOfTrees()[0]
	for range 300 {
		var l []api.Token
		var want []api.Node
		for range 1 + m.Intn(4) {
			part, n := k.written(m.unit(2), m.Rand)
			l, want = append(l, part...), append(want, n)
		}
		got, at, e := parse.Tokens(l)
		if e != api.OK || at != 0 || len(got) != len(want) {
			t.Fatal(written(l), at, e)
		}
		for i := range got {
			if !parse.Same(got[i], want[i]) || lined(got[i]) != lined(want[i]) {
				t.Fatal(shown(got[i]), shown(want[i]))
			}
		}
	}
}

// P8.9: where an error is does not depend on what is behind it.
func TestErrorsStay(t *testing.T) {
	m := maker{rand.New(rand.NewSource(8))}
	k := kindsOfTrees()[0]
	words := alphabet()
	for range 3000 {
		l, _ := k.written(m.unit(2), nil)
		l[m.Intn(len(l))] = token(words[m.Intn(len(words))])
		_, at, e := parse.Tokens(l)
		if e != api.ErrSyntax {
			continue
		}
		cut := l[:min(at+1, len(l))]
		if _, there, e := parse.Tokens(cut); there != at || e != api.ErrSyntax {
			t.Fatal(written(l), at, there, e)
		}
		other := slices.Clone(cut)
		for range 5 {
			other = append(other, token(words[m.Intn(len(words))]))
			if _, there, e := parse.Tokens(other); at < len(l) && (there != at || e != api.ErrSyntax) {
				t.Fatal(written(other), at, there, e)
			}
		}
		if _, there, e := parse.Tokens(l[:at]); e == api.ErrSyntax && there != at || e != api.OK && e != api.ErrSyntax { // it could go on
			t.Fatal(written(l[:at]), at, there, e)
		}
	}
}

// P8.11: blanks, comments and line feeds change lines alone.
func TestBlanks(t *testing.T) {
	m := maker{rand.New(rand.NewSource(9))}
	k := kindsOfTrees()[0]
	for range 300 {
		n := m.unit(2)
		l, _ := k.written(n, nil)
		var src strings.Builder
		for _, s := range spelled(l) {
			src.WriteString([]string{" ", "\n", " $ x ; \"\n", "  \n \n"}[m.Intn(4)] + s)
		}
		src.WriteString([]string{"", " ", "\n", " $ end"}[m.Intn(4)])
		got, line, col, e := parse.Units(src.String())
		plain, _, _, wrong := parse.Units(strings.Join(spelled(l), " "))
		if e != api.OK || wrong != api.OK || len(got) != 1 || !parse.Same(got[0], plain[0]) {
			t.Fatal(src.String(), line, col, e, wrong)
		}
	}
}

// spelled returns how tokens are written, with another name for fresh ones.
func spelled(l []api.Token) []string {
	var all []string
	for _, x := range l {
		s, e := lex.Spell(x.Kind, x.Text)
		if e != api.OK {
			s = "x"
		}
		all = append(all, s)
	}
	return all
}

// P8.12: a source with macros has the trees of the expanded tokens.
func TestMacros(t *testing.T) {
	src := `macro swap(x, y; t);
  t := x; x := y; y := t; endm;
program p; var a, b;
  macro one; 1 endm;
  macro both(x); swap(x, x(one)) print(x,
    one); endm;
  swap(a, b) both(a)
end;
macro unit(u); module u; exports f; proc f(x); return x +
  one; end; end; endm;
unit(m)`
	got, line, col, e := parse.Units(src)
	if e != api.OK || len(got) != 2 {
		t.Fatal(line, col, e)
	}
	defs, rest, _, _ := macro.Split(tokens(t, src))
	x, _, _ := macro.Expand(defs, rest)
	want, _, e := parse.Tokens(x.Tokens)
	if e != api.OK {
		t.Fatal(e)
	}
	for i := range want {
		if !parse.Same(got[i], want[i]) || lined(got[i]) != lined(want[i]) || parse.CheckUnit(got[i]) != api.OK {
			t.Error(shown(got[i]), shown(want[i]))
		}
	}
	if s := shown(got[0].Kids[1]); s != "body(assign(t#1 a) assign(a b) assign(b t#1) assign(t#3 a) assign(a sel(a 1)) assign(sel(a 1) t#3) print(a 1))" {
		t.Error(s)
	}
	if s := shown(got[1]); s != "module:m(exports(f) decls procs(proc:f(params(param:x) decls body(return(bin.1(x 1))))))" {
		t.Error(s)
	}
}

// Any tokens come to an end, and have no place beyond them.
func TestAnyTokens(t *testing.T) {
	m := rand.New(rand.NewSource(10))
	words := alphabet()
	for range 20000 {
		var l []api.Token
		for range m.Intn(12) {
			x := token(words[m.Intn(len(words))])
			if m.Intn(30) == 0 {
				x.Kind = m.Intn(9) - 1
			}
			x.Line = m.Intn(5) - 2
			l = append(l, x)
		}
		all, at, e := parse.Tokens(l)
		if e == api.OK && (len(all) == 0 || at != 0) || e != api.OK && (all != nil || at < 0 || at > len(l) || e != api.ErrSyntax) {
			t.Fatal(written(l), at, e)
		}
		if _, again, wrong := parse.Tokens(l); again != at || wrong != e {
			t.Fatal(written(l))
		}
	}
}
