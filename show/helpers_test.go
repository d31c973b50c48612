package show_test

import (
	"fmt"
	"slices"
	"strings"
	"testing"

	"zermelo/api"
	"zermelo/parse"
	"zermelo/show"
)

// node makes a node with Kids.
func node(kind, n int, kids ...api.Node) api.Node { return api.Node{Kind: kind, N: n, Kids: kids} }

// name makes a name.
func name(text string) api.Node { return api.Node{Kind: api.NdName, Text: text} }

// number makes an integer.
func number(text string) api.Node { return api.Node{Kind: api.NdInt, Text: text} }

// expr returns the tree of an expression that has one.
func expr(t *testing.T, src string) api.Node {
	t.Helper()
	n, line, col, e := parse.Expr(src)
	if e != api.OK {
		t.Fatal(src, line, col, e)
	}
	return n
}

// body returns the tree of statements that have one.
func body(t *testing.T, src string) api.Node {
	t.Helper()
	n, line, col, e := parse.Body(src)
	if e != api.OK {
		t.Fatal(src, line, col, e)
	}
	return n
}

// unit returns the tree of a unit that has one.
func unit(t *testing.T, src string) api.Node {
	t.Helper()
	l, line, col, e := parse.Units(src)
	if e != api.OK || len(l) != 1 {
		t.Fatal(src, len(l), line, col, e)
	}
	return l[0]
}

// text returns the text of an expression that has one.
func text(t *testing.T, n api.Node) string {
	t.Helper()
	s, e := show.Expr(n)
	if e != api.OK {
		t.Fatal(n, e)
	}
	return s
}

// equal reports whether two trees are equal in all fields.
func equal(a, b api.Node) bool {
	if a.Kind != b.Kind || a.Text != b.Text || a.N != b.N || a.Line != b.Line {
		return false
	}
	return slices.EqualFunc(a.Kids, b.Kids, equal)
}

// equalEdits reports whether two lists of changes are equal.
func equalEdits(a, b []api.TreeEdit) bool {
	return slices.EqualFunc(a, b, func(x, y api.TreeEdit) bool { return slices.Equal(x.Path, y.Path) && equal(x.Node, y.Node) })
}

// zero reports whether a tree is the one that is returned with an error.
func zero(n api.Node) bool { return equal(n, api.Node{}) }

// copied returns a copy of a tree.
func copied(n api.Node) api.Node {
	kids := n.Kids
	n.Kids = nil
	for _, x := range kids {
		n.Kids = append(n.Kids, copied(x))
	}
	return n
}

// each visits the nodes of a tree, each one ahead of its Kids.
func each(n *api.Node, visit func(n *api.Node)) {
	visit(n)
	for i := range n.Kids {
		each(&n.Kids[i], visit)
	}
}

// spoil changes all nodes of a tree, in its memory.
func spoil(n *api.Node) {
	for i := range n.Kids {
		spoil(&n.Kids[i])
	}
	*n = api.Node{Kind: -1, Text: "spoiled", N: -1, Line: -1, Kids: n.Kids}
}

// shown writes a tree in full.
func shown(n api.Node) string {
	return strings.ReplaceAll(fmt.Sprintf("%+v", n), "Kids:[]", "")
}

// lines joins lines, each with a line feed behind it.
func lines(l ...string) string { return strings.Join(l, "\n") + "\n" }

// indented puts blanks in front of all lines of a text.
func indented(s string) string {
	out := ""
	for line := range strings.Lines(s) {
		out += "  " + line
	}
	return out
}
