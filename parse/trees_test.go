package parse_test

import (
	"math/rand"
	"slices"
	"testing"

	"zermelo/api"
	"zermelo/parse"
)

// kindOfTree is what a tree is of: how it is made, checked, written and read.
type kindOfTree struct {
	name  string
	make  func(m maker) api.Node
	check func(api.Node) api.Errno
	write func(w *writer, n api.Node) api.Node
	read  func(l []api.Token) (api.Node, api.Errno) // the tree of the tokens behind `ahead`
	ahead string
	tail  string
}

// kindsOfTrees are units, bodies, expressions, and what is assigned to.
func kindsOfTrees() []kindOfTree {
	one := func(path ...int) func([]api.Token) (api.Node, api.Errno) {
		return func(l []api.Token) (api.Node, api.Errno) {
			all, _, e := parse.Tokens(l)
			if e != api.OK || len(all) != 1 {
				return api.Node{}, max(e, api.ErrNone)
			}
			return parse.At(all[0], path)
		}
	}
	return []kindOfTree{
		{"unit", func(m maker) api.Node { return m.unit(m.Intn(4)) }, parse.CheckUnit, (*writer).unit, one(), "", ""},
		{"body", func(m maker) api.Node { return m.body(m.Intn(4)) }, parse.CheckBody, (*writer).body, one(1), "program p ;", "end ;"},
		{"expr", func(m maker) api.Node { return m.expr(m.Intn(5)) }, parse.CheckExpr, (*writer).expr, one(1, 0, 0), "program p ; assert", "; end ;"},
		{"left", func(m maker) api.Node { return m.left(m.Intn(5)) }, parse.CheckLeft, (*writer).left, one(1, 0, 0), "program p ;", ":= 1 ; end ;"},
	}
}

// written writes a tree, and returns the tokens, and the tree with the lines that it should have.
func (k kindOfTree) written(n api.Node, chance *rand.Rand) ([]api.Token, api.Node) {
	w := &writer{line: 1}
	w.words(k.ahead)
	w.chance = chance
	n = k.write(w, n)
	w.words(k.tail)
	return w.list, n
}

// P8.1, P8.6, P8.7, P8.11: trees that are written as tokens, with parentheses that need and need not be there, are read as they were, with their lines.
func TestThereAndBack(t *testing.T) {
	chance := rand.New(rand.NewSource(1))
	m := maker{chance}
	for _, k := range kindsOfTrees() {
		for range 3000 {
			n := k.make(m)
			if e := k.check(n); e != api.OK && (e != api.ErrLimit || parse.Size(n) <= api.MaxTree) {
				t.Fatal(k.name, shown(n), e)
			}
			for _, by := range []*rand.Rand{nil, chance} {
				l, want := k.written(n, by)
				got, e := k.read(l)
				if e == api.ErrLimit && parse.Size(n) > api.MaxTree/2 {
					continue
				}
				if e != api.OK || shown(got) != shown(want) || lined(got) != lined(want) {
					t.Fatalf("%s: %s\n%s, %d\n%s\n%s\n%s", k.name, written(l), shown(got), e, shown(want), lined(got), lined(want))
				}
			}
		}
	}
}

// badTexts are Texts that only some tokens, or none, can have.
var badTexts = []string{"", "x", "A", "1", "01", "1.5", "1.50", ".5", "end", "a b", "a\n", "t#1", "t#0", "t#01", "t#6000", "t#6001", "end#1", "_a", "9a", "x$", "-1",
	"twentyfivelettersinanames", "twentyfourlettersinaname#1", "twentyfivelettersinanames#1", "\x7f", "\"", times(1000, "a"), times(1001, "a")}

// change changes one thing in a tree.
func (m maker) change(n *api.Node) {
	var all []*api.Node
	var visit func(n *api.Node)
	visit = func(n *api.Node) {
		all = append(all, n)
		for i := range n.Kids {
			visit(&n.Kids[i])
		}
	}
	visit(n)
	x, y := all[m.Intn(len(all))], all[m.Intn(len(all))]
	switch m.Intn(8) {
	case 0:
		x.Kind = m.pick(api.NdProgram, api.NdParam, api.NdVar, api.NdUses, api.NdBody, api.NdAssign, api.NdChange, api.NdFrom, api.NdIf, api.NdCase, api.NdWhen, api.NdWhile, api.NdFor, api.NdReturn,
			api.NdPrint, api.NdRead, api.NdCall, api.NdInt, api.NdName, api.NdTuple, api.NdSet, api.NdRange, api.NdFormer, api.NdQuant, api.NdIters, api.NdIn, api.NdAt, api.NdUn, api.NdBin,
			api.NdAnd, api.NdFold, api.NdIfx, api.NdSel, api.NdImg, api.NdSlice, api.NdList, api.NdSkip, api.NdNone, 0, 81)
	case 1:
		x.N = m.Intn(30) - 2
	case 2:
		x.Text = m.text(badTexts)
	case 3:
		if len(x.Kids) > 0 {
			i := m.Intn(len(x.Kids))
			x.Kids = slices.Delete(slices.Clone(x.Kids), i, i+1)
		}
	case 4:
		x.Kids = append(slices.Clone(x.Kids), m.expr(1))
	case 5:
		kid, _ := parse.At(*y, nil)
		x.Kids = append(slices.Clone(x.Kids), kid)
	case 6:
		kid, _ := parse.At(*y, nil)
		*x = kid
	case 7:
		kid, _ := parse.Put(*x, nil, api.Node{Kind: m.pick(api.NdNone, api.NdSkip, api.NdName, api.NdBody, api.NdTuple), Text: m.text([]string{"", "x"})})
		*x = kid
	}
}

// agrees reports whether a tree is accepted just if there are tokens that are read as it is.
func (k kindOfTree) agrees(t *testing.T, n api.Node) {
	t.Helper()
	e := k.check(n)
	l, _ := k.written(n, nil)
	got, wrong := k.read(l)
	made := wrong == api.OK && parse.Same(got, n)
	if e == api.ErrLimit && parse.Size(n) <= api.MaxTree && parse.Depth(n) <= api.MaxNest || e != api.ErrLimit && (e == api.OK) != made {
		t.Fatalf("%s: %s: %d\n%s\n%s, %d", k.name, shown(n), e, written(l), shown(got), wrong)
	}
}

// P8.3: trees in which something is changed are accepted just if they can be made.
func TestChanged(t *testing.T) {
	m := maker{rand.New(rand.NewSource(2))}
	for _, k := range kindsOfTrees() {
		for range 6000 {
			n := k.make(m)
			for range 1 + m.Intn(2) {
				m.change(&n)
			}
			k.agrees(t, n)
		}
	}
}

// P8.3: all small nodes with Kids of many sorts are accepted just if they can be made.
func TestAllSmall(t *testing.T) {
	x, one := text(api.NdName, "x"), text(api.NdInt, "1")
	in := node(api.NdIn, x, one)
	pool := []api.Node{x, one, node(api.NdBody), node(api.NdNone), node(api.NdSkip), node(api.NdTuple, x), node(api.NdIters, in), in,
		node(api.NdWhen, node(api.NdList, one), node(api.NdBody)), node(api.NdList, one), node(api.NdDecls), node(api.NdProcs), node(api.NdParams), node(api.NdExports),
		node(api.NdSel, x, one), node(api.NdSel, x), node(api.NdStop)}
	lists := [][]api.Node{nil}
	for _, a := range pool {
		lists = append(lists, []api.Node{a})
		for _, b := range pool {
			lists = append(lists, []api.Node{a, b})
		}
	}
	for _, a := range pool[:7] {
		for _, b := range pool[:9] {
			for _, c := range pool[:9] {
				lists = append(lists, []api.Node{a, b, c})
			}
		}
	}
	for _, k := range kindsOfTrees() {
		for kind := range labels {
			text := map[int]string{api.NdInt: "1", api.NdDec: "1.5", api.NdStr: "x", api.NdName: "x", api.NdProgram: "x", api.NdModule: "x", api.NdConst: "x", api.NdProc: "x", api.NdParam: "x"}[kind]
			n := map[int]int{api.NdUn: 1, api.NdBin: 1, api.NdFold: 1, api.NdChange: 1, api.NdRange: api.VSet, api.NdFormer: api.VTup}[kind]
			tried := lists[:1+len(pool)]
			if home := map[bool]string{kind < api.NdBody: "unit", kind >= api.NdInt: "expr"}[true]; k.name == home || home == "" && k.name == "body" {
				tried = lists
			}
			for _, kids := range tried {
				if tree := (api.Node{Kind: kind, Text: text, N: n, Kids: kids}); k.name != "body" {
					k.agrees(t, tree)
				} else {
					k.agrees(t, node(api.NdBody, tree))
				}
			}
		}
	}
}

// P8.3: every N of every Kind, and every Text.
func TestAllNumbersAndTexts(t *testing.T) {
	m := maker{rand.New(rand.NewSource(3))}
	seen := map[int]bool{}
	for _, k := range kindsOfTrees() {
		for range 400 {
			n := k.make(m)
			var visit func(at api.Node, path []int)
			visit = func(at api.Node, path []int) {
				if !seen[at.Kind] {
					seen[at.Kind] = true
					for number := -2; number < 30; number++ {
						other := at
						other.N = number
						tree, _ := parse.Put(n, path, other)
						k.agrees(t, tree)
					}
					for _, text := range badTexts {
						other := at
						other.Text = text
						tree, _ := parse.Put(n, path, other)
						k.agrees(t, tree)
					}
				}
				for i, kid := range at.Kids {
					visit(kid, append(slices.Clone(path), i))
				}
			}
			visit(n, nil)
		}
	}
	for kind, label := range labels {
		if !seen[kind] {
			t.Error(label)
		}
	}
}
