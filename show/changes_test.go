package show_test

import (
	"math/rand"
	"slices"
	"testing"

	"zermelo/api"
	"zermelo/parse"
	"zermelo/show"
)

// small makes a tree that need not be right: few Kinds, Texts and lines, so that trees are often alike.
func (m maker) small(deep int) api.Node {
	n := api.Node{Kind: m.pick(1, 1, 1, -5), Text: m.text([]string{"", "", "", "x"}), N: m.pick(0, 0, 0, 7), Line: m.pick(0, 0, 0, -2)}
	if deep > 0 {
		n.Kids = m.some(0, 3, m.small, deep-1)
	}
	return n
}

// varied returns a tree in which some nodes are other ones.
func (m maker) varied(n api.Node) api.Node {
	n = copied(n)
	for range m.Intn(4) {
		var all []*api.Node
		each(&n, func(x *api.Node) { all = append(all, x) })
		x := all[m.Intn(len(all))]
		switch m.Intn(6) {
		case 0:
			*x = m.small(2)
		case 1:
			x.Text += "a"
		case 2:
			x.N++
		case 3:
			x.Line++
		case 4:
			x.Kids = append(x.Kids, m.small(1))
		case 5:
			x.Kind++
		}
	}
	return n
}

// differences tells a second time the changes that make b of a.
func differences(a, b api.Node, path []int) []api.TreeEdit {
	if equal(a, b) {
		return nil
	}
	if a.Kind != b.Kind || a.Text != b.Text || a.N != b.N || a.Line != b.Line || len(a.Kids) != len(b.Kids) {
		return []api.TreeEdit{{Path: slices.Clone(path), Node: b}}
	}
	var l []api.TreeEdit
	for i := range a.Kids {
		l = append(l, differences(a.Kids[i], b.Kids[i], append(slices.Clone(path), i))...)
	}
	return l
}

// P9.5, P9.9: Differ told a second time; Apply of its changes, in any order, makes the other tree; Turn leads back.
func TestDiffer(t *testing.T) {
	m := maker{rand.New(rand.NewSource(10))}
	long := 0
	for range 20000 {
		a := m.small(3)
		b := m.varied(a)
		l := show.Differ(a, b)
		if !equalEdits(l, differences(a, b, nil)) {
			t.Fatalf("%s\n%s\n%v", shown(a), shown(b), l)
		}
		m.Shuffle(len(l), func(i, j int) { l[i], l[j] = l[j], l[i] })
		x, e := show.Apply(a, l)
		if e != api.OK || !equal(x, b) {
			t.Fatalf("%s\n%s\n%s, %d", shown(a), shown(b), shown(x), e)
		}
		back, e := show.Turn(a, l)
		if e != api.OK || len(back) != len(l) {
			t.Fatal(l, back, e)
		}
		for i := range back {
			if there, _ := parse.At(a, l[i].Path); !slices.Equal(back[i].Path, l[i].Path) || !equal(back[i].Node, there) {
				t.Fatal(l, back)
			}
		}
		m.Shuffle(len(back), func(i, j int) { back[i], back[j] = back[j], back[i] })
		if x, e := show.Apply(b, back); e != api.OK || !equal(x, a) {
			t.Fatalf("%s\n%s\n%s, %d", shown(a), shown(b), shown(x), e)
		}
		long = max(long, len(l))
	}
	if long < 3 {
		t.Error(long)
	}
}

// P9.5: each field, and the number of Kids, makes one change; equal trees none.
func TestDifferFields(t *testing.T) {
	n := api.Node{Kind: 5, Text: "a", N: 6, Line: 7, Kids: []api.Node{{Kind: 1}, {Kind: 2}}}
	if l := show.Differ(n, copied(n)); len(l) > 0 {
		t.Error(l)
	}
	if l := show.Differ(api.Node{}, api.Node{Kids: []api.Node{}}); len(l) > 0 {
		t.Error(l)
	}
	for i, change := range []func(x *api.Node){
		func(x *api.Node) { x.Kind = 4 }, func(x *api.Node) { x.Text = "b" }, func(x *api.Node) { x.N = 5 }, func(x *api.Node) { x.Line = 6 },
		func(x *api.Node) { x.Kids = x.Kids[:1] }, func(x *api.Node) { x.Kids = append(x.Kids, api.Node{Kind: 3}) },
	} {
		x := copied(n)
		change(&x)
		if l := show.Differ(n, x); !equalEdits(l, []api.TreeEdit{{Node: x}}) {
			t.Error(i, l)
		}
		around := func(n api.Node) api.Node { return node(0, 0, node(0, 0), node(0, 0, n, n)) }
		if l := show.Differ(around(n), around(x)); !equalEdits(l, []api.TreeEdit{{Path: []int{1, 0}, Node: x}, {Path: []int{1, 1}, Node: x}}) {
			t.Error(i, l)
		}
	}
}

// path makes a path that a tree has, mostly.
func (m maker) path(n api.Node) []int {
	var l []int
	for len(n.Kids) > 0 && m.Intn(4) > 0 {
		i := m.Intn(len(n.Kids))
		l = append(l, i)
		n = n.Kids[i]
	}
	if m.Intn(12) == 0 {
		l = append(l, m.pick(-1, 0, 3, 9))
	}
	return l
}

// edits makes changes that a tree can have, mostly.
func (m maker) edits(n api.Node) []api.TreeEdit {
	var l []api.TreeEdit
	for range m.Intn(4) {
		l = append(l, api.TreeEdit{Path: m.path(n), Node: m.small(2)})
	}
	return l
}

// P9.5: Apply is Put one after the other; Turn has ErrClash unless the list is apart, then ErrNone.
func TestApplyTurn(t *testing.T) {
	m := maker{rand.New(rand.NewSource(11))}
	count := map[api.Errno]int{}
	for range 20000 {
		n := m.small(3)
		l := m.edits(n)
		want, e := copied(n), api.OK
		for _, x := range l {
			if e == api.OK {
				want, e = parse.Put(want, x.Path, x.Node)
			}
		}
		if got, f := show.Apply(n, l); f != e || !equal(got, want) {
			t.Fatalf("%s %v\n%s, %d, want\n%s, %d", shown(n), l, shown(got), f, shown(want), e)
		}
		wrong := turning(n, l)
		back, f := show.Turn(n, l)
		if f != wrong || f != api.OK && len(back) > 0 || f == api.OK && len(back) != len(l) {
			t.Fatalf("%s %v\n%v, %d, want %d", shown(n), l, back, f, wrong)
		}
		count[f]++
	}
	if count[api.OK] < 500 || count[api.ErrClash] < 500 || count[api.ErrNone] < 500 {
		t.Error(count)
	}
}

// beginning reports whether a path is a beginning of another one, or the same.
func beginning(a, b []int) bool { return len(a) <= len(b) && slices.Equal(a, b[:len(a)]) }

// turning returns the error of Turn.
func turning(n api.Node, l []api.TreeEdit) api.Errno {
	for i, x := range l {
		for j, y := range l {
			if i != j && beginning(x.Path, y.Path) {
				return api.ErrClash
			}
		}
	}
	for _, x := range l {
		if _, e := parse.At(n, x.Path); e != api.OK {
			return e
		}
	}
	return api.OK
}

// P9.5: ErrClash and ErrNone of Turn, case by case.
func TestTurnErrors(t *testing.T) {
	n := node(1, 0, node(2, 0, node(3, 0), node(4, 0)), node(5, 0))
	for _, x := range []struct {
		paths [][]int
		e     api.Errno
	}{
		{nil, api.OK}, {[][]int{{}}, api.OK}, {[][]int{{1}, {0}}, api.OK}, {[][]int{{0, 1}, {1}, {0, 0}}, api.OK},
		{[][]int{{}, {}}, api.ErrClash}, {[][]int{{0, 1}, {}}, api.ErrClash}, {[][]int{{0, 1}, {1}, {0}}, api.ErrClash}, {[][]int{{1}, {0}, {1}}, api.ErrClash},
		{[][]int{{2}, {7}, {2}}, api.ErrClash}, {[][]int{{9, 1}, {9}}, api.ErrClash}, {[][]int{{10}, {1}, {0}, {1, 0}}, api.ErrClash},
		{[][]int{{2}}, api.ErrNone}, {[][]int{{-1}}, api.ErrNone}, {[][]int{{0}, {1, 0}}, api.ErrNone}, {[][]int{{0, 2}}, api.ErrNone},
	} {
		var l []api.TreeEdit
		for _, path := range x.paths {
			l = append(l, api.TreeEdit{Path: path})
		}
		if back, e := show.Turn(n, l); e != x.e || e == api.OK && len(back) != len(l) || e != api.OK && len(back) > 0 {
			t.Error(x.paths, back, e, x.e)
		}
	}
}

// merged tells a second time what Merge returns.
func merged(n, a, b api.Node) (api.Node, []int, api.Errno) {
	ours, theirs := differences(n, a, nil), differences(n, b, nil)
	same := func(x, y api.TreeEdit) bool { return slices.Equal(x.Path, y.Path) && equal(x.Node, y.Node) }
	l := slices.Clone(ours)
	for _, x := range ours {
		for _, y := range theirs {
			if !same(x, y) && (beginning(x.Path, y.Path) || beginning(y.Path, x.Path)) {
				return api.Node{}, x.Path, api.ErrClash
			}
		}
	}
	for _, y := range theirs {
		if !slices.ContainsFunc(ours, func(x api.TreeEdit) bool { return same(x, y) }) {
			l = append(l, y)
		}
	}
	for _, x := range l {
		n, _ = parse.Put(n, x.Path, x.Node)
	}
	return n, nil, api.OK
}

// P9.5, P9.10: Merge told a second time; it is the same whichever comes first, contains both, and with the tree itself it is the other one.
func TestMerge(t *testing.T) {
	m := maker{rand.New(rand.NewSource(12))}
	good, clashes := 0, 0
	for range 30000 {
		n := m.small(3)
		a, b := m.varied(n), m.varied(n)
		if m.Intn(4) == 0 { // changes in common
			n, a, b = node(0, 0, n, n), node(0, 0, a, a), node(0, 0, b, a)
		}
		want, path, wrong := merged(n, a, b)
		got, at, e := show.Merge(n, a, b)
		if e != wrong || !slices.Equal(at, path) || !equal(got, want) {
			t.Fatalf("%s\n%s\n%s\n%s, %v, %d, want %v, %d", shown(n), shown(a), shown(b), shown(got), at, e, path, wrong)
		}
		other, _, f := show.Merge(n, b, a)
		if f != e || !equal(other, got) {
			t.Fatal(shown(other), f)
		}
		if e == api.OK {
			good++
			contains(t, n, a, got)
			contains(t, n, b, got)
		} else {
			clashes++
		}
		itself(t, n, a)
	}
	if good < 3000 || clashes < 3000 {
		t.Error(good, clashes)
	}
}

// contains holds the nodes that were changed against a merged tree.
func contains(t *testing.T, n, changed, merged api.Node) {
	t.Helper()
	for _, x := range show.Differ(n, changed) {
		if there, e := parse.At(merged, x.Path); e != api.OK || !equal(there, x.Node) {
			t.Fatal(x, shown(there), e)
		}
	}
}

// itself holds Merge with the tree itself, and of two changes that are the same, against what they should be.
func itself(t *testing.T, n, a api.Node) {
	t.Helper()
	for _, l := range [][2]api.Node{{a, n}, {n, a}, {a, a}} {
		if x, at, e := show.Merge(n, l[0], l[1]); e != api.OK || len(at) > 0 || !equal(x, a) {
			t.Fatal(shown(n), shown(a), shown(x), at, e)
		}
	}
}

// P9.5: where changes clash.
func TestMergeClashes(t *testing.T) {
	f := func(src string) api.Node { return expr(t, src) }
	for _, x := range []struct {
		n, a, b string
		path    []int
	}{
		{"f(1)", "g(1)", "h(1)", []int{0}}, {"f(1, 2)", "f(3, 2)", "x", []int{1}}, {"f(1, 2)", "x", "f(1, 3)", []int{}}, {"f(1, 2)", "x", "y", []int{}},
		{"f(g(1), 2)", "f(g(3), 4)", "f(x, 2)", []int{1, 1}}, {"f(g(1, 2), 3)", "f(x, 3)", "f(g(1, 5), 3)", []int{1}}, {"f(1, 2, 3)", "f(4, 5, 6)", "f(4, 7, 8)", []int{2}},
		{"f(1, 2, g(3))", "f(4, 2, g(5))", "f(1, 6, g(7))", []int{3, 1}}, {"f(g(1, 2), h(3))", "f(g(4, 5), h(6))", "f(x, h(7))", []int{1, 1}},
	} {
		if n, at, e := show.Merge(f(x.n), f(x.a), f(x.b)); !zero(n) || !slices.Equal(at, x.path) || e != api.ErrClash {
			t.Error(x, shown(n), at, e)
		}
	}
}

// P9.5, P9.9: trees that are deep or wide.
func TestLargeChanges(t *testing.T) {
	deep, other := name("a"), name("b")
	var path []int
	for range 20000 {
		deep, other = node(api.NdTuple, 0, name("x"), deep), node(api.NdTuple, 0, name("x"), other)
		path = append(path, 1)
	}
	l := show.Differ(deep, other)
	if len(l) != 1 || !slices.Equal(l[0].Path, path) || !equal(l[0].Node, name("b")) {
		t.Error(len(l))
	}
	if x, e := show.Apply(deep, l); e != api.OK || !parse.Same(x, other) {
		t.Error(e)
	}
	if x, _, e := show.Merge(deep, deep, other); e != api.OK || !parse.Same(x, other) {
		t.Error(e)
	}
	wide, changed := node(api.NdTuple, 0), node(api.NdTuple, 0)
	for range 50000 {
		wide.Kids, changed.Kids = append(wide.Kids, name("a")), append(changed.Kids, name("b"))
	}
	l = show.Differ(wide, changed)
	back, e := show.Turn(wide, l)
	if len(l) != 50000 || len(back) != 50000 || e != api.OK {
		t.Error(len(l), len(back), e)
	}
	if x, e := show.Apply(wide, l); e != api.OK || !parse.Same(x, changed) {
		t.Error(e)
	}
	if x, _, e := show.Merge(wide, changed, changed); e != api.OK || !parse.Same(x, changed) {
		t.Error(e)
	}
}
