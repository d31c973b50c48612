package val

import (
	"iter"

	"zermelo/api"
	"zermelo/guard"
)

// place is where a node is in a value.
type place struct {
	node *api.Val
	deep int      // 1 for the value itself
	of   *api.Val // whose element it is; nil for the value itself
	at   int      // the index among these elements
}

// walk gives the nodes of a value, each twice: when it is met, ahead of its elements, and behind their nodes.
func walk(v *api.Val) iter.Seq2[place, bool] {
	return func(yield func(place, bool) bool) { follow(place{node: v, deep: 1}, yield) }
}

// follow gives the nodes at a place, and reports whether more are wanted.
func follow(p place, yield func(p place, met bool) bool) bool {
	if !yield(p, true) {
		return false
	}
	for i := range p.node.L {
		if !follow(place{node: &p.node.L[i], deep: p.deep + 1, of: p.node, at: i}, yield) {
			return false
		}
	}
	return yield(p, false)
}

// limits are what a value keeps to.
type limits struct{ maxNodes, maxDeep int }

// counter counts the nodes of a value, as long as they are within limits.
type counter struct {
	limits
	nodes, deep int
}

// newCounter returns a counter that has met no node.
func newCounter() counter {
	return counter{limits: limits{maxNodes: api.MaxNodes, maxDeep: api.MaxDeep}}
}

// add counts a node, or ends the call if it is beyond the limits.
func (c *counter) add(p place) {
	guard.Demand(c.nodes < c.maxNodes && p.deep <= c.maxDeep, api.ErrLimit)
	c.nodes++
	c.deep = max(c.deep, p.deep)
}

// count counts the nodes of a value, or ends the call at the first one that is beyond the limits.
func count(v *api.Val) counter {
	c := newCounter()
	for p, met := range walk(v) {
		if met {
			c.add(p)
		}
	}
	return c
}

// made returns a copy of what work puts together from parts of arguments, if it is within the limits.
func made(work func() api.Val) (result api.Val, e api.Errno) {
	e = guard.Attempt(func() {
		v := work()
		count(&v)
		result = Copy(v)
	})
	return result, e
}
