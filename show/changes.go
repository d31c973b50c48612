package show

import (
	"slices"

	"zermelo/api"
	"zermelo/parse"
)

// copied returns a copy of a tree that shares no memory with it.
func copied(n api.Node) api.Node {
	x, _ := parse.At(n, nil)
	return x
}

// place returns the node of a tree at a path, in the memory of the tree.
func place(n *api.Node, path []int) *api.Node {
	for _, i := range path {
		if i < 0 || i >= len(n.Kids) {
			panic(api.ErrNone)
		}
		n = &n.Kids[i]
	}
	return n
}

// edit returns a change with a path of its own.
func edit(path []int, n api.Node) api.TreeEdit {
	return api.TreeEdit{Path: slices.Clone(path), Node: n}
}

// differ gathers the changes that make a tree of another one.
type differ struct {
	path  []int // of the nodes that are compared
	edits []api.TreeEdit
}

// compare adds the changes that make b of a.
func (d *differ) compare(a, b api.Node) {
	if a.Kind != b.Kind || a.Text != b.Text || a.N != b.N || a.Line != b.Line || len(a.Kids) != len(b.Kids) {
		d.edits = append(d.edits, edit(d.path, copied(b)))
		return
	}
	for i := range a.Kids {
		d.path = append(d.path, i)
		d.compare(a.Kids[i], b.Kids[i])
		d.path = d.path[:len(d.path)-1]
	}
}

// begins reports whether a path is a beginning of another one, or the same.
func begins(a, b []int) bool { return len(a) <= len(b) && slices.Equal(a, b[:len(a)]) }

// related reports whether one of two paths is a beginning of the other one.
func related(a, b []int) bool { return begins(a, b) || begins(b, a) }

// sameEdit reports whether two changes are equal.
func sameEdit(a, b api.TreeEdit) bool {
	return slices.Equal(a.Path, b.Path) && len(Differ(a.Node, b.Node)) == 0
}

// joined returns the changes of two lists that are apart and in the order of their paths, those of both once; at a clash the path of the first list's change.
func joined(a, b []api.TreeEdit) (l []api.TreeEdit, clash []int, e api.Errno) {
	l = slices.Clone(a)
	i := 0
	for _, x := range b {
		for i < len(a) && !related(a[i].Path, x.Path) && slices.Compare(a[i].Path, x.Path) < 0 {
			i++ // nor can what comes behind x be related to it
		}
		switch {
		case i == len(a) || !related(a[i].Path, x.Path):
			l = append(l, x)
		case !sameEdit(a[i], x):
			return nil, a[i].Path, api.ErrClash
		}
	}
	return l, nil, api.OK
}

// apart reports whether no path of changes is a beginning of another one.
func apart(l []api.TreeEdit) bool {
	var paths [][]int
	for _, x := range l {
		paths = append(paths, x.Path)
	}
	slices.SortFunc(paths, slices.Compare[[]int])
	for i := 1; i < len(paths); i++ {
		if begins(paths[i-1], paths[i]) {
			return false // in this order a path stands directly ahead of one that it is a beginning of
		}
	}
	return true
}
