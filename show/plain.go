package show

import (
	"iter"
	"slices"
	"strconv"

	"zermelo/api"
	"zermelo/macro"
)

// nodes yields the nodes of a tree, in its memory, each one ahead of its Kids.
func nodes(n *api.Node) iter.Seq[*api.Node] {
	return func(yield func(*api.Node) bool) {
		todo := []*api.Node{n}
		for len(todo) > 0 {
			x := todo[len(todo)-1]
			todo = todo[:len(todo)-1]
			if !yield(x) {
				return
			}
			for i := range slices.Backward(x.Kids) {
				todo = append(todo, &x.Kids[i])
			}
		}
	}
}

// named reports whether the Text of a node of a Kind is a name.
func named(kind int) bool {
	switch kind {
	case api.NdName, api.NdParam, api.NdConst, api.NdProc, api.NdProgram, api.NdModule:
		return true
	}
	return false
}

// makePlain takes the lines of a tree away, and puts other names in the place of fresh ones.
func makePlain(n *api.Node) {
	g := giver{taken: map[string]bool{}, given: map[string]string{}}
	for x := range nodes(n) {
		x.Line = 0
		if named(x.Kind) {
			g.taken[x.Text] = true
		}
	}
	for x := range nodes(n) {
		if named(x.Kind) {
			x.Text = g.name(x.Text)
		}
	}
}

// giver gives other names in the place of fresh ones.
type giver struct {
	taken map[string]bool
	given map[string]string // to fresh names
	last  int               // the number of the name that was given last
}

// name returns the name in the place of another one.
func (g *giver) name(text string) string {
	_, _, fresh := macro.Fresh(text)
	if !fresh {
		return text
	}
	if g.given[text] == "" {
		g.given[text] = g.another()
	}
	return g.given[text]
}

// another returns a name that is not taken.
func (g *giver) another() string {
	for {
		g.last++
		text := "f" + strconv.Itoa(g.last)
		if !g.taken[text] {
			return text
		}
	}
}
