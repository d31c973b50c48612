package parse

import (
	"iter"
	"slices"

	"zermelo/api"
)

// visit is a node, and how deep it stands; the root is 1 deep.
type visit struct {
	node api.Node
	deep int
}

// nodes yields the nodes of a tree, each one ahead of its Kids, and how deep it stands. Trees may be deeper than calls should be.
func nodes(n api.Node) iter.Seq2[api.Node, int] {
	return func(yield func(api.Node, int) bool) {
		todo := []visit{{n, 1}}
		for len(todo) > 0 {
			x := todo[len(todo)-1]
			todo = todo[:len(todo)-1]
			if !yield(x.node, x.deep) {
				return
			}
			for _, kid := range slices.Backward(x.node.Kids) {
				todo = append(todo, visit{kid, x.deep + 1})
			}
		}
	}
}

// measured returns how many nodes a tree has, and how deep it is.
func measured(n api.Node) (size, depth int) {
	for _, deep := range nodes(n) {
		size++
		depth = max(depth, deep)
	}
	return size, depth
}

// small reports whether a tree keeps to the limits of trees.
func small(n api.Node) bool {
	size, depth := measured(n)
	return size <= api.MaxTree && depth <= api.MaxNest
}

// copied returns a copy of a tree that shares no memory with it.
func copied(n api.Node) api.Node {
	todo := []*api.Node{&n}
	for len(todo) > 0 {
		x := todo[len(todo)-1]
		todo = todo[:len(todo)-1]
		x.Kids = append([]api.Node(nil), x.Kids...)
		for i := range x.Kids {
			todo = append(todo, &x.Kids[i])
		}
	}
	return n
}

// same reports whether two trees are equal but for lines.
func same(a, b api.Node) bool {
	todo := [][2]api.Node{{a, b}}
	for len(todo) > 0 {
		x, y := todo[len(todo)-1][0], todo[len(todo)-1][1]
		todo = todo[:len(todo)-1]
		if x.Kind != y.Kind || x.Text != y.Text || x.N != y.N || len(x.Kids) != len(y.Kids) {
			return false
		}
		for i := range x.Kids {
			todo = append(todo, [2]api.Node{x.Kids[i], y.Kids[i]})
		}
	}
	return true
}

// found returns the node of a tree at a path, in the memory of the tree; nil, if there is none.
func found(n *api.Node, path []int) *api.Node {
	for _, i := range path {
		if i < 0 || i >= len(n.Kids) {
			return nil
		}
		n = &n.Kids[i]
	}
	return n
}
