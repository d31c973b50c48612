package show_test

import (
	"math/rand"
	"testing"

	"zermelo/api"
	"zermelo/parse"
	"zermelo/show"
)

// kindOfTree is what a tree is of: how it is made, written, and told a second time, and the tree of a text.
type kindOfTree struct {
	name string
	make func(m maker) api.Node
	show func(api.Node) (string, api.Errno)
	tell func(w *teller, n api.Node) string
	read func(s string) (api.Node, api.Errno)
}

// kindsOfTrees are units, bodies, expressions, and what is assigned to.
func kindsOfTrees() []kindOfTree {
	return []kindOfTree{
		{"unit", func(m maker) api.Node { return m.unit(m.Intn(4)) }, show.Unit, (*teller).unit, readUnit},
		{"body", func(m maker) api.Node { return m.body(m.Intn(4)) }, show.Body, (*teller).statements, readBody},
		{"expr", func(m maker) api.Node { return m.expr(m.Intn(6)) }, show.Expr, (*teller).plainly, readExpr},
		{"left", func(m maker) api.Node { return m.left(m.Intn(6)) }, show.Left, (*teller).pattern, readLeft},
	}
}

func readExpr(s string) (api.Node, api.Errno) {
	n, _, _, e := parse.Expr(s)
	return n, e
}

func readBody(s string) (api.Node, api.Errno) {
	n, _, _, e := parse.Body(s)
	return n, e
}

func readLeft(s string) (api.Node, api.Errno) {
	n, e := readBody(s + " := 1;")
	if e != api.OK {
		return n, e
	}
	return parse.At(n, []int{0, 0})
}

func readUnit(s string) (api.Node, api.Errno) {
	l, _, _, e := parse.Units(s)
	if e != api.OK || len(l) != 1 {
		return api.Node{}, max(e, api.ErrNone)
	}
	return l[0], e
}

// P9.1, P9.4, P9.6: texts of trees by chance, told a second time, and read back.
func TestTexts(t *testing.T) {
	m := maker{rand.New(rand.NewSource(1))}
	for _, k := range kindsOfTrees() {
		for range 3000 {
			n := k.make(m)
			w := &teller{}
			want := k.tell(w, n)
			got, e := k.show(n)
			if e != api.OK && parse.Size(n) < api.MaxTree || e == api.OK && got != want {
				t.Fatalf("%s: %s\n%s, %d, want\n%s", k.name, shown(n), got, e, want)
			}
			if pairs, e := show.Pairs(n); k.name == "expr" && (pairs != w.pairs || e != api.OK) {
				t.Fatal(got, pairs, w.pairs, e)
			}
			again, e := k.read(got)
			if e == api.ErrLimit && len(got) > 2000 {
				continue
			}
			if e != api.OK || !parse.Same(n, again) {
				t.Fatalf("%s: %s\n%s, %d\n%s", k.name, got, shown(n), e, shown(again))
			}
		}
	}
}
