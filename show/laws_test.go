package show_test

import (
	"math/rand"
	"slices"
	"strings"
	"testing"

	"zermelo/api"
	"zermelo/lex"
	"zermelo/parse"
	"zermelo/show"
)

// samples are expressions of all forms, with names as operands.
func samples() []api.Node {
	a, b, c := name("a"), name("b"), name("c")
	in := node(api.NdIters, 0, node(api.NdIn, 0, c, b))
	l := []api.Node{
		a, {Kind: api.NdInt, Text: "1"}, {Kind: api.NdDec, Text: "1.5"}, {Kind: api.NdStr, Text: "/"}, node(api.NdTuple, 0), node(api.NdSet, 0, a, b),
		node(api.NdRange, api.VTup, a, b, c), node(api.NdFormer, api.VSet, a, in, node(api.NdNone, 0)), node(api.NdFormer, api.VSet, c, in, a),
		node(api.NdFormer, api.VTup, a, in, c), node(api.NdFormer, api.VTup, a, node(api.NdIters, 0, node(api.NdAt, 0, c, b, a)), node(api.NdNone, 0)),
		node(api.NdFormer, api.VTup, a, node(api.NdIters, 0, node(api.NdImage, 0, c, b, a)), node(api.NdNone, 0)),
		node(api.NdQuant, api.QtExists, in, a), node(api.NdIfx, 0, a, b, c), node(api.NdSel, 0, a, b), node(api.NdSel, 0, a), node(api.NdImg, 0, a, b),
		node(api.NdSlice, 0, a, b, node(api.NdNone, 0)), node(api.NdSlice, 0, a, b, c),
	}
	for _, r := range table {
		for _, n := range []int{r.numbers[0], r.numbers[len(r.numbers)-1]} {
			if r.first > 0 {
				l = append(l, node(r.kind, n, a, b))
			} else {
				l = append(l, node(r.kind, n, a))
			}
		}
	}
	for _, n := range []int{api.BiDiv, api.BiSub, api.BiMul, api.BiAnd} {
		l = append(l, node(api.NdFold, n, a), node(api.NdFold, n, a, b), node(api.NdBin, api.BiDiv, a, b), node(api.NdBin, api.BiSub, a, b))
	}
	return append(l, node(api.NdUn, api.UnLen, a))
}

// places are the paths at which an expression of a form can have another expression.
func places(n api.Node) [][]int {
	var l [][]int
	for i, kid := range n.Kids {
		at := []int{i}
		switch {
		case kid.Kind == api.NdIters:
			at = []int{i, 0, 1}
		case kid.Kind == api.NdNone:
			continue
		}
		l = append(l, at)
	}
	return l
}

// nested are the samples with each other in each of their places, and some of these with samples in theirs by chance.
func nested() []api.Node {
	chance := rand.New(rand.NewSource(2))
	all := samples()
	l := slices.Clone(all)
	for _, outer := range all {
		for _, path := range places(outer) {
			for _, inner := range all {
				n, _ := parse.Put(outer, path, inner)
				l = append(l, n)
				if deeper := places(inner); len(deeper) > 0 {
					n, _ = parse.Put(n, append(slices.Clone(path), deeper[chance.Intn(len(deeper))]...), all[chance.Intn(len(all))])
					l = append(l, n)
				}
			}
		}
	}
	return l
}

// grouping returns the positions of parentheses in a text that stand around an operand: no operand ends directly ahead of them.
func grouping(t *testing.T, s string) [][2]int {
	t.Helper()
	l, _, e := lex.Scan(s)
	if e != api.OK {
		t.Fatal(s, e)
	}
	var pairs [][2]int
	var open []int // the position of what is open; -1, if it is not around an operand
	ends := false  // whether an operand ends ahead of the token
	for _, x := range l {
		sign := x.Kind == api.TkSign || x.Kind == api.TkKey
		switch {
		case sign && x.Text == "(" && !ends:
			open = append(open, x.At)
		case sign && x.Text == "(":
			open = append(open, -1)
		case sign && x.Text == ")":
			if from := open[len(open)-1]; from >= 0 {
				pairs = append(pairs, [2]int{from, x.At})
			}
			open = open[:len(open)-1]
		}
		ends = !sign || slices.Contains([]string{")", "]", "}", "true", "false", "om", "newat", "ok", "end"}, x.Text)
	}
	return pairs
}

// least holds a text against what is read without each of its pairs of parentheses.
func least(t *testing.T, n api.Node, s string) {
	t.Helper()
	pairs := grouping(t, s)
	if k, e := show.Pairs(n); k != len(pairs) || e != api.OK {
		t.Fatal(s, k, len(pairs), e)
	}
	for _, p := range pairs {
		inside, _ := readExpr(s[p[0]+1 : p[1]])
		x, e := readExpr(s[:p[0]] + " " + s[p[0]+1:p[1]] + " " + s[p[1]+1:])
		if e == api.OK && parse.Same(x, n) && inside.Kind != api.NdQuant {
			t.Fatalf("%s: the parentheses at %d need not be there", s, p[0])
		}
	}
}

// P9.1, P9.4, P9.6, P9.7: expressions of all forms within each other, told a second time, read back, and without parentheses.
func TestNested(t *testing.T) {
	texts := map[string]api.Node{}
	for _, n := range nested() {
		w := &teller{}
		want := w.plainly(n)
		got := text(t, n)
		again, e := readExpr(got)
		if got != want || e != api.OK || !parse.Same(again, n) {
			t.Fatalf("%s\n%s\n%s\n%s, %d", shown(n), got, want, shown(again), e)
		}
		if other, known := texts[got]; known && !parse.Same(other, n) {
			t.Fatal(got, shown(other), shown(n))
		}
		texts[got] = n
		least(t, n, got)
	}
	if len(texts) < 4000 {
		t.Error(len(texts))
	}
}

// P9.7: expressions by chance have no parentheses that need not be there.
func TestLeast(t *testing.T) {
	m := maker{rand.New(rand.NewSource(3))}
	for range 1500 {
		n := m.expr(2 + m.Intn(2))
		least(t, n, text(t, n))
	}
}

// scattered writes the tokens of a text with other blanks, comments and lines between them, and large letters.
func scattered(t *testing.T, chance *rand.Rand, s string) string {
	t.Helper()
	l, at, e := lex.Scan(s)
	if e != api.OK {
		t.Fatal(s, at, e)
	}
	between := []string{" ", "  ", "\n", " $ a ( \" $\n", "\n\n\t"[:2]}
	var out strings.Builder
	for _, x := range l {
		out.WriteString(between[chance.Intn(len(between))])
		spelled, _ := lex.Spell(x.Kind, x.Text)
		if x.Kind != api.TkStr && chance.Intn(3) == 0 {
			spelled = strings.ToUpper(spelled)
		}
		out.WriteString(spelled)
	}
	return out.String()
}

// P9.2, P9.8: parentheses, blanks, comments, lines and long forms that need not be there do not matter to Format, nor does Format by itself.
func TestFormatOnce(t *testing.T) {
	m := maker{rand.New(rand.NewSource(4))}
	formatted := 0
	for range 1500 {
		var l []api.Node
		src := ""
		for range 1 + m.Intn(3) {
			n := m.unit(m.Intn(3))
			l = append(l, n)
			src += (&teller{chance: m.Rand}).unit(n)
		}
		src = scattered(t, m.Rand, src)
		want, e := show.Units(l)
		if e != api.OK {
			t.Fatal(e)
		}
		got, line, col, e := show.Format(src)
		if e == api.ErrLimit && len(src) > api.MaxSource {
			continue
		}
		if got != want || line != 0 || col != 0 || e != api.OK {
			t.Fatalf("%s\n%s\n%s, %d, %d, %d", src, want, got, line, col, e)
		}
		if len(got) > api.MaxSource {
			continue
		}
		formatted++
		again, line, col, e := show.Format(got)
		if again != got || line != 0 || col != 0 || e != api.OK {
			t.Fatalf("%s\n%s, %d, %d, %d", got, again, line, col, e)
		}
	}
	if formatted < 1000 {
		t.Error(formatted)
	}
}

// P9.11: the text of a statement within a body is its text by itself, with blanks in front.
func TestStatementsWithin(t *testing.T) {
	m := maker{rand.New(rand.NewSource(5))}
	alone := func(n api.Node) string {
		s, e := show.Body(n)
		if e != api.OK {
			t.Fatal(shown(n), e)
		}
		return s
	}
	for range 1000 {
		statement := m.statement(2)
		inner := node(api.NdBody, 0, m.statement(1), statement)
		first, own := alone(node(api.NdBody, 0, inner.Kids[0])), alone(node(api.NdBody, 0, statement))
		if s := alone(inner); s != first+own {
			t.Fatal(s, first, own)
		}
		x := m.leaf()
		value := text(t, x)
		when := node(api.NdWhen, 0, node(api.NdList, 0, x), inner)
		iters := node(api.NdIters, 0, node(api.NdIn, 0, name("y"), x))
		shifted := indented(first + own)
		for _, c := range []struct {
			around api.Node
			want   string
		}{
			{node(api.NdIf, 0, x, inner, x, inner, inner), "if " + value + " then\n" + shifted + "elseif " + value + " then\n" + shifted + "else\n" + shifted + "end;\n"},
			{node(api.NdCase, 0, x, when, inner), "case " + value + " of\nwhen " + value + ":\n" + shifted + "otherwise\n" + shifted + "end;\n"},
			{node(api.NdWhile, 0, x, inner), "while " + value + " do\n" + shifted + "end;\n"},
			{node(api.NdUntil, 0, x, inner), "until " + value + " do\n" + shifted + "end;\n"},
			{node(api.NdFor, 0, iters, x, inner), "for y in " + value + " | " + value + " do\n" + shifted + "end;\n"},
			{node(api.NdLoop, 0, node(api.NdBody, 0, node(api.NdLoop, 0, inner))), "loop do\n  loop do\n" + indented(shifted) + "  end;\nend;\n"},
		} {
			if s := alone(node(api.NdBody, 0, c.around)); s != c.want {
				t.Fatalf("%s\n%s", s, c.want)
			}
		}
	}
}

// P9.11: a change of one Kid of an expression changes just its part of the text, and the parentheses around it.
func TestPartOfText(t *testing.T) {
	all := samples()
	for _, outer := range all {
		if outer.Kind == api.NdFormer || outer.Kind == api.NdQuant {
			continue // their parts are not all expressions
		}
		for _, path := range places(outer) {
			marked, _ := parse.Put(outer, path, name("here"))
			ahead, behind, _ := strings.Cut(text(t, marked), "here")
			for _, inner := range all {
				n, _ := parse.Put(outer, path, inner)
				part, cut := strings.CutPrefix(text(t, n), ahead)
				part, end := strings.CutSuffix(part, behind)
				want := text(t, inner)
				if !cut || !end || part != want && part != "("+want+")" && (part != " "+want || want[0] != '-') {
					t.Fatalf("%s: %q %q %q, want %q", text(t, n), ahead, part, behind, want)
				}
			}
		}
	}
}
