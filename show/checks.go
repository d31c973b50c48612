package show

import (
	"zermelo/api"
	"zermelo/guard"
	"zermelo/parse"
)

// checkOf returns the check of trees of a Kind.
func checkOf(kind int) func(api.Node) api.Errno {
	switch kind {
	case api.NdProgram, api.NdModule:
		return parse.CheckUnit
	case api.NdBody:
		return parse.CheckBody
	}
	return parse.CheckExpr
}

// demandRight ends an attempt with the error of a check.
func demandRight(n api.Node, check func(api.Node) api.Errno) {
	e := check(n)
	guard.Demand(e == api.OK, e)
}

// checked returns what is made of a tree, if a check accepts it.
func checked[T any](n api.Node, check func(api.Node) api.Errno, work func(api.Node) T) (made T, e api.Errno) {
	e = guard.Attempt(func() {
		demandRight(n, check)
		made = work(n)
	})
	return made, e
}
