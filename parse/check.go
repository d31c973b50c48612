package parse

import (
	"zermelo/api"
	"zermelo/lex"
	"zermelo/macro"
)

// mostLines is the greatest line that a node can have.
const mostLines = 100000

// cast is a node, and what it stands for.
type cast struct {
	node api.Node
	role role
}

// checker holds trees against the shapes of nodes.
type checker struct {
	shapes map[role]map[int]shape // those of the roles that have been looked at
	texts  map[cell]bool          // the Texts that have been looked at
}

// cell is a Text, and the Kind of the token that it should be of.
type cell struct {
	kind int
	text string
}

// check reports whether a tree can be made of what stands for a role.
func check(n api.Node, r role) api.Errno {
	c := checker{shapes: map[role]map[int]shape{}, texts: map[cell]bool{}}
	if !c.fits(n, r) {
		return api.ErrForm
	}
	if !small(n) {
		return api.ErrLimit
	}
	return api.OK
}

// fits reports whether all nodes of a tree have what they should have.
func (c *checker) fits(n api.Node, r role) bool {
	todo := []cast{{n, r}}
	for len(todo) > 0 {
		x := todo[len(todo)-1]
		todo = todo[:len(todo)-1]
		roles, is := c.roles(x)
		if !is {
			return false
		}
		for i, kid := range x.node.Kids {
			todo = append(todo, cast{kid, roles[i]})
		}
	}
	return true
}

// roles returns the roles of the Kids of a node, if it can have its role.
func (c *checker) roles(x cast) ([]role, bool) {
	n := x.node
	if c.shapes[x.role] == nil {
		c.shapes[x.role] = shapesOf(x.role)
	}
	s, is := c.shapes[x.role][n.Kind]
	if !is || n.Line < 0 || n.Line > mostLines || !c.reads(cell{s.text, n.Text}) {
		return nil, false
	}
	if s.n == nil && n.N != 0 || s.n != nil && !s.n(n.N) {
		return nil, false
	}
	if s.kids == nil {
		return nil, len(n.Kids) == 0
	}
	return s.kids(len(n.Kids))
}

// reads reports whether tokens of a Kind can have a Text; without a Kind it has to be empty.
func (c *checker) reads(x cell) bool {
	if x.kind == 0 {
		return x.text == ""
	}
	is, known := c.texts[x]
	if !known {
		is = spelled(x)
		c.texts[x] = is
	}
	return is
}

// spelled reports whether a token has a Text.
func spelled(x cell) bool {
	_, _, fresh := macro.Fresh(x.text)
	if fresh && x.kind == api.TkName {
		return true
	}
	_, e := lex.Spell(x.kind, x.text)
	return e == api.OK
}
