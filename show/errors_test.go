package show_test

import (
	"math/rand"
	"strings"
	"testing"

	"zermelo/api"
	"zermelo/parse"
	"zermelo/show"
)

// texts is a function that makes a text of a tree, the check whose error it returns, and what makes a right tree of an expression.
type texts struct {
	name   string
	show   func(api.Node) (string, api.Errno)
	check  func(api.Node) api.Errno
	around func(api.Node) api.Node
}

// allTexts are the functions that make texts of trees.
func allTexts() []texts {
	first := func(l ...api.Node) (string, api.Errno) { return show.Units(l) }
	inBody := func(n api.Node) api.Node { return node(api.NdBody, 0, node(api.NdAssert, 0, n)) }
	inUnit := func(n api.Node) api.Node {
		return api.Node{Kind: api.NdProgram, Text: "p", Kids: []api.Node{node(api.NdDecls, 0), inBody(n), node(api.NdProcs, 0)}}
	}
	itself := func(n api.Node) api.Node { return n }
	number := func(n api.Node) (string, api.Errno) {
		k, e := show.Pairs(n)
		return strings.Repeat("()", k), e
	}
	return []texts{
		{"Expr", show.Expr, parse.CheckExpr, itself},
		{"Pairs", number, parse.CheckExpr, itself},
		{"Left", show.Left, parse.CheckLeft, func(n api.Node) api.Node { return node(api.NdSel, 0, name("a"), n) }},
		{"Body", show.Body, parse.CheckBody, inBody},
		{"Unit", show.Unit, parse.CheckUnit, inUnit},
		{"Units", func(n api.Node) (string, api.Errno) { return first(n) }, parse.CheckUnit, inUnit},
		{"Units, the second one", func(n api.Node) (string, api.Errno) { return first(inUnit(name("a")), n) }, parse.CheckUnit, inUnit},
	}
}

// wrongTrees are trees that no function takes, and some that just some of them take.
func wrongTrees() []api.Node {
	a := name("a")
	return []api.Node{
		{}, node(api.NdNone, 0), node(api.NdSkip, 0), node(api.NdIters, 0, node(api.NdIn, 0, a, a)), node(api.NdList, 0, a), node(api.NdProcs, 0), node(-1, 0),
		node(api.NdBody, 0, a), node(api.NdBody, 1), node(api.NdAssign, 0, a, a), node(api.NdTuple, 0, node(api.NdSkip, 0)), node(api.NdBin, 0, a, a),
		node(api.NdBin, api.BiAdd, a), node(api.NdFold, api.BiEq, a), node(api.NdFold, api.BiAdd), node(api.NdUn, 99, a), node(api.NdOm, 1), node(api.NdBool, 2),
		{Kind: api.NdInt, Text: "01"}, {Kind: api.NdName, Text: "end"}, {Kind: api.NdName, Text: "t#0"}, {Kind: api.NdStr, Text: "\n"}, {Kind: api.NdName, Text: "a", Line: -1},
		node(api.NdSlice, 0, a, a), node(api.NdFormer, api.VSet, a, a, a), node(api.NdIfx, 0, a, a), node(api.NdQuant, 3, node(api.NdIters, 0, node(api.NdIn, 0, a, a)), a),
		{Kind: api.NdProgram, Text: "p"}, {Kind: api.NdModule, Text: "m", Kids: []api.Node{node(api.NdExports, 0), node(api.NdDecls, 0), node(api.NdBody, 0)}},
	}
}

// P9.1, P9.4: the errors are those of the checks of layer 8, and there is no text with one.
func TestErrors(t *testing.T) {
	m := maker{rand.New(rand.NewSource(6))}
	trees := wrongTrees()
	for range 200 {
		trees = append(trees, m.expr(2), m.left(2), m.body(2), m.unit(1), m.statement(1))
	}
	for _, x := range allTexts() {
		for _, n := range trees {
			want := x.check(n)
			s, e := x.show(n)
			if e != want || e != api.OK && s != "" {
				t.Fatalf("%s: %s: %q, %d, want %d", x.name, shown(n), s, e, want)
			}
		}
		for _, n := range wrongTrees() {
			inside := x.around(node(api.NdTuple, 0, name("b"), n))
			if s, e := x.show(inside); e != x.check(inside) || e != api.OK && s != "" {
				t.Fatalf("%s: %s: %q, %d", x.name, shown(inside), s, e)
			}
		}
	}
}

// P9.1: of several units the error of the first one that has one counts.
func TestUnitsErrors(t *testing.T) {
	good := unit(t, "program p; end;")
	form := api.Node{Kind: api.NdProgram}
	limit := copied(good)
	deep := name("a")
	for range api.MaxNest {
		deep = node(api.NdTuple, 0, deep)
	}
	limit.Kids[1].Kids = []api.Node{node(api.NdAssert, 0, deep)}
	for _, x := range []struct {
		l []api.Node
		e api.Errno
	}{
		{[]api.Node{good, form, limit}, api.ErrForm}, {[]api.Node{good, limit, form}, api.ErrLimit}, {[]api.Node{limit}, api.ErrLimit}, {[]api.Node{good, good, form}, api.ErrForm},
	} {
		if s, e := show.Units(x.l); s != "" || e != x.e {
			t.Errorf("%q, %d, want %d", s, e, x.e)
		}
	}
}

// P9.1, P9.3, P9.4: trees at the edge of the limits have texts, those beyond it have ErrLimit.
func TestLimits(t *testing.T) {
	chain := func(deep int) api.Node {
		n := name("a")
		for range deep - 1 {
			n = node(api.NdUn, api.UnNeg, n)
		}
		return n
	}
	wide := func(size int) api.Node { // a tuple of sums with so many nodes
		n := node(api.NdTuple, 0)
		left := size - 1
		for left > 0 {
			part := min(left, 101)
			part -= 1 - part%2
			sum := name("a")
			if part > 1 {
				sum = balanced(part)
			}
			n.Kids = append(n.Kids, sum)
			left -= part
			if len(n.Kids) == 7 && left > 1 {
				n = node(api.NdTuple, 0, n)
				left--
			}
		}
		return n
	}
	for _, x := range []struct {
		n api.Node
		e api.Errno
	}{
		{chain(api.MaxNest), api.OK}, {chain(api.MaxNest + 1), api.ErrLimit}, {wide(api.MaxTree), api.OK}, {wide(api.MaxTree + 1), api.ErrLimit},
	} {
		if size := parse.Size(x.n); size > 100 && size != api.MaxTree && size != api.MaxTree+1 {
			t.Error(size)
		}
		s, e := show.Expr(x.n)
		if e != x.e || (s == "") != (e != api.OK) {
			t.Errorf("%.40q, %d, want %d", s, e, x.e)
		}
		if _, e := show.Pairs(x.n); e != x.e {
			t.Error(e, x.e)
		}
		if p, e := show.Plain(x.n); e != x.e || zero(p) != (e != api.OK) {
			t.Error(e, x.e)
		}
	}
}

// balanced is a sum with an odd number of nodes.
func balanced(size int) api.Node {
	if size == 1 {
		return name("a")
	}
	half := (size - 1) / 2
	if half%2 == 0 {
		half--
	}
	return node(api.NdBin, api.BiAdd, balanced(half), balanced(size-1-half))
}

// P9.1: the texts of trees with the longest strings, and with much nesting, are what they are for short ones.
func TestLongTexts(t *testing.T) {
	long := strings.Repeat("\"", api.MaxStr)
	n := api.Node{Kind: api.NdStr, Text: long}
	for range 3 {
		n = node(api.NdTuple, 0, n, n, n, n, n, n, n, n)
	}
	s := text(t, n)
	if k := strings.Count(s, "\""); k != 512*(2*api.MaxStr+2) {
		t.Error(k)
	}
	body := node(api.NdBody, 0)
	for range (api.MaxNest - 1) / 2 {
		body = node(api.NdBody, 0, node(api.NdLoop, 0, body))
	}
	want := ""
	for range (api.MaxNest - 1) / 2 {
		want = "loop do\n" + indented(want) + "end;\n"
	}
	if s, e := show.Body(body); s != want || e != api.OK {
		t.Error(s, e)
	}
}
