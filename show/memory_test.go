package show_test

import (
	"slices"
	"testing"

	"zermelo/api"
	"zermelo/show"
)

// apartFrom spoils results, and holds the arguments against what they were.
func apartFrom(t *testing.T, what string, before, arguments []api.Node) {
	t.Helper()
	for i := range before {
		if !equal(before[i], arguments[i]) {
			t.Error(what, i)
		}
	}
}

// spoilEdits changes all of some changes, in their memory.
func spoilEdits(l []api.TreeEdit) {
	for i := range l {
		spoil(&l[i].Node)
		for j := range l[i].Path {
			l[i].Path[j] = -9
		}
	}
}

// G6: results share no memory with arguments, nor with each other.
func TestMemory(t *testing.T) {
	n, a, b := expr(t, "f(1, g(2), h(3, 4))"), expr(t, "f(k(5), g(2), h(3, 4))"), expr(t, "f(1, g(2), h(m(6), m(6)))")
	arguments := []api.Node{n, a, b}
	var before []api.Node
	for _, x := range arguments {
		before = append(before, copied(x))
	}
	x, _ := show.Plain(n)
	spoil(&x)
	apartFrom(t, "Plain", before, arguments)

	l := show.Differ(n, b)
	keep := show.Differ(n, b)
	spoilEdits(l[:1])
	if !equalEdits(l[1:], keep[1:]) {
		t.Error("changes share memory")
	}
	spoilEdits(l[1:])
	apartFrom(t, "Differ", before, arguments)

	shared := name("x")
	shared.Kids = []api.Node{name("y")}
	edits := []api.TreeEdit{{Path: []int{1}, Node: shared}, {Path: []int{2}, Node: shared}, {Path: []int{1, 0}, Node: name("z")}}
	x, _ = show.Apply(n, edits)
	if x.Kids[1].Kids[0].Text != "z" || x.Kids[2].Kids[0].Text != "y" || shared.Kids[0].Text != "y" {
		t.Error(shown(x), shown(shared))
	}
	spoil(&x)
	apartFrom(t, "Apply", before, arguments)
	if shared.Text != "x" || shared.Kids[0].Text != "y" || !slices.Equal(edits[2].Path, []int{1, 0}) {
		t.Error(shown(shared), edits)
	}
	x, _ = show.Apply(n, nil)
	spoil(&x)
	apartFrom(t, "Apply of nothing", before, arguments)

	x, _, _ = show.Merge(n, a, b)
	if s := text(t, x); s != "f(k(5), g(2), h(m(6), m(6)))" {
		t.Error(s)
	}
	spoil(&x)
	apartFrom(t, "Merge", before, arguments)

	back, _ := show.Turn(n, keep)
	spoilEdits(back)
	apartFrom(t, "Turn", before, arguments)
	if !equalEdits(keep, show.Differ(n, b)) {
		t.Error("Turn shares memory with its argument")
	}
	paths := [][]int{{1}, {0}}
	edits = []api.TreeEdit{{Path: paths[0]}, {Path: paths[1]}}
	show.Turn(n, edits)
	if !slices.Equal(edits[0].Path, []int{1}) || !slices.Equal(edits[1].Path, []int{0}) {
		t.Error("Turn changes its argument")
	}
}

// G6: texts do not change arguments.
func TestArguments(t *testing.T) {
	n := unit(t, "program p; x := {a in s | (exists y in t | b)}; if -(a + b) = 1 then f(); end; proc f(); end; end;")
	before := copied(n)
	show.Unit(n)
	show.Units([]api.Node{n, n})
	show.Plain(n)
	show.Body(n.Kids[1])
	show.Expr(n.Kids[1].Kids[0].Kids[1])
	show.Pairs(n.Kids[1].Kids[0].Kids[1])
	show.Left(n.Kids[1].Kids[0].Kids[0])
	if !equal(n, before) {
		t.Error(shown(n))
	}
}
