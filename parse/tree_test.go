package parse_test

import (
	"math/rand"
	"slices"
	"testing"

	"zermelo/api"
	"zermelo/parse"
)

// some trees that no source has.
func odd() []api.Node {
	leaf := api.Node{Kind: 7, Text: "t", N: -3, Line: 9}
	wide := api.Node{Kind: -1, Kids: []api.Node{leaf, {}, {Text: "u"}, leaf}}
	return []api.Node{{}, leaf, wide, {Kind: 1000, N: 5, Kids: []api.Node{wide, leaf, {Kids: []api.Node{wide}}}}}
}

// all calls a function with all nodes of a tree and their paths, each one ahead of its Kids.
func all(n api.Node, path []int, visit func(api.Node, []int)) {
	visit(n, path)
	for i, x := range n.Kids {
		all(x, append(slices.Clone(path), i), visit)
	}
}

// trees returns trees of all sorts.
func trees(t *testing.T) []api.Node {
	l := append(odd(), expr(t, "{f(x) + - 2 : x in s, [y, -] in t | exists z in u | a}"),
		unit(t, "program p; var x; case x of when 1, 2: f(x); otherwise [x, -] := om; end; proc f(rw a); end; end;"))
	m := maker{rand.New(rand.NewSource(4))}
	for range 20 {
		l = append(l, m.unit(2), m.expr(4))
	}
	return l
}

// P8.5, P8.10: sizes and depths, and nodes at paths.
func TestPaths(t *testing.T) {
	for _, n := range trees(t) {
		size, depth := 0, 0
		all(n, nil, func(x api.Node, path []int) {
			size++
			depth = max(depth, len(path)+1)
			got, e := parse.At(n, path)
			if e != api.OK || shown(got) != shown(x) || lined(got) != lined(x) {
				t.Error(shown(n), path, shown(got), e)
			}
			back, e := parse.Put(n, path, got)
			if e != api.OK || !parse.Same(back, n) || lined(back) != lined(n) {
				t.Error(shown(n), path, shown(back), e)
			}
			other := api.Node{Kind: 5, Text: "new", N: 3, Line: 4, Kids: []api.Node{{Kind: 6}}}
			put, e := parse.Put(n, path, other)
			if e != api.OK || parse.Size(put) != parse.Size(n)-parse.Size(x)+2 {
				t.Error(shown(n), path, shown(put), e)
			}
			if got, e := parse.At(put, path); e != api.OK || shown(got) != shown(other) || got.Line != 4 {
				t.Error(shown(n), path, shown(got), e)
			}
			for _, wrong := range []int{-1, len(x.Kids), len(x.Kids) + 7} {
				bad := append(slices.Clone(path), wrong)
				if got, e := parse.At(n, bad); e != api.ErrNone || !zero(got) {
					t.Error(shown(n), bad, e)
				}
				if got, e := parse.Put(n, bad, other); e != api.ErrNone || !zero(got) {
					t.Error(shown(n), bad, e)
				}
				if _, e := parse.At(n, append(bad, 0)); e != api.ErrNone {
					t.Error(shown(n), bad, e)
				}
			}
		})
		if parse.Size(n) != size || parse.Depth(n) != depth {
			t.Error(shown(n), parse.Size(n), size, parse.Depth(n), depth)
		}
		sum := 1
		for _, x := range n.Kids {
			sum += parse.Size(x)
		}
		if sum != size {
			t.Error(shown(n), sum, size)
		}
	}
}

// P8.5: Same looks at everything but lines.
func TestSame(t *testing.T) {
	for _, n := range trees(t) {
		if !parse.Same(n, n) {
			t.Error(shown(n))
		}
		all(n, nil, func(x api.Node, path []int) {
			try := func(change func(*api.Node), want bool) {
				y := x
				change(&y)
				m, _ := parse.Put(n, path, y)
				if parse.Same(n, m) != want || parse.Same(m, n) != want {
					t.Error(shown(n), shown(m), want)
				}
			}
			try(func(y *api.Node) { y.Line += 3 }, true)
			try(func(y *api.Node) { y.Kind++ }, false)
			try(func(y *api.Node) { y.N-- }, false)
			try(func(y *api.Node) { y.Text += "!" }, false)
			try(func(y *api.Node) { y.Kids = append(slices.Clone(y.Kids), api.Node{}) }, false)
			if len(x.Kids) > 0 {
				try(func(y *api.Node) { y.Kids = y.Kids[1:] }, false)
			} else {
				try(func(y *api.Node) { y.Kids = []api.Node{} }, true)
			}
		})
	}
	a, b := expr(t, "[x, y]"), expr(t, "[y, x]")
	if parse.Same(a, b) {
		t.Error("turned round")
	}
}

// spoil changes everything in the memory of a tree.
func spoil(n *api.Node) {
	for i := range n.Kids {
		spoil(&n.Kids[i])
	}
	n.Kids = append(n.Kids[:len(n.Kids):cap(n.Kids)], make([]api.Node, cap(n.Kids)-len(n.Kids))...)
	for i := range n.Kids {
		n.Kids[i] = api.Node{Kind: -5, Text: "spoilt"}
	}
	n.Kind, n.Text, n.N, n.Line = -5, "spoilt", -5, -5
}

// Results are memory of their own.
func TestMemory(t *testing.T) {
	for _, n := range trees(t) {
		before, lines := shown(n), lined(n)
		all(n, nil, func(x api.Node, path []int) {
			got, _ := parse.At(n, path)
			spoil(&got)
			if shown(n) != before || lined(n) != lines {
				t.Fatal("At", before, path)
			}
			other := api.Node{Kind: 5, Kids: []api.Node{{Kind: 6}}}
			put, _ := parse.Put(n, path, other)
			spoil(&put)
			if shown(n) != before || lined(n) != lines || shown(other) != "uses(var)" {
				t.Fatal("Put", before, path)
			}
			put, _ = parse.Put(n, path, other)
			want := shown(put)
			spoil(&other)
			if shown(put) != want {
				t.Fatal("Put", before, path)
			}
		})
	}
	// no two lists of one tree are the same memory
	m := maker{rand.New(rand.NewSource(5))}
	for range 2000 {
		k := kindsOfTrees()[m.Intn(4)]
		l, _ := k.written(k.make(m), m.Rand)
		trees, _, e := parse.Tokens(l)
		if e != api.OK {
			continue
		}
		seen := map[*api.Node]bool{}
		for _, n := range trees {
			all(n, nil, func(x api.Node, path []int) {
				for i := range x.Kids {
					if seen[&x.Kids[i]] {
						t.Fatal(shown(n), path)
					}
					seen[&x.Kids[i]] = true
				}
			})
		}
	}
	n := expr(t, "{[x, [y]] in s | c}")
	spoil(&n.Kids[0])
	if shown(n.Kids[1]) != "iters(in(tuple(x tuple(y)) s))" {
		t.Error(shown(n))
	}
}

// The tokens that are read stay as they are.
func TestTokensStay(t *testing.T) {
	l := tokens(t, "program p; x := {[y, z] in s | f(y) = 1}; end;")
	before := slices.Clone(l)
	all, _, _ := parse.Tokens(l)
	spoil(&all[0])
	if !slices.Equal(l, before) {
		t.Error(l)
	}
}
