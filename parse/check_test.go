package parse_test

import (
	"testing"

	"zermelo/api"
	"zermelo/parse"
)

// node makes a node of Kids alone.
func node(kind int, kids ...api.Node) api.Node { return api.Node{Kind: kind, Kids: kids} }

// text makes a node of a Text alone.
func text(kind int, text string) api.Node { return api.Node{Kind: kind, Text: text} }

// number gives a node a number.
func number(n int, x api.Node) api.Node {
	x.N = n
	return x
}

// label gives a node a Text.
func label(text string, x api.Node) api.Node {
	x.Text = text
	return x
}

// times9 makes a list of nine nodes.
func times9(x api.Node) []api.Node { return []api.Node{x, x, x, x, x, x, x, x, x} }

// P8.3: expressions, case by case.
func TestCheckExpr(t *testing.T) {
	x, one, none, skip := text(api.NdName, "x"), text(api.NdInt, "1"), node(api.NdNone), node(api.NdSkip)
	in := node(api.NdIn, x, x)
	iters := node(api.NdIters, in)
	for i, c := range []struct {
		n  api.Node
		ok bool
	}{
		{api.Node{}, false},
		{x, true}, {text(api.NdName, "t#9"), true}, {text(api.NdName, "end"), false}, {text(api.NdName, "X"), false}, {text(api.NdName, ""), false}, {number(1, x), false}, {node(api.NdName, x), false},
		{one, true}, {text(api.NdInt, "01"), false}, {text(api.NdInt, "1.0"), false}, {text(api.NdInt, "-1"), false}, {text(api.NdInt, "t#9"), false},
		{text(api.NdDec, "1.0"), true}, {text(api.NdDec, "1.10"), false}, {text(api.NdDec, "1"), false},
		{text(api.NdStr, ""), true}, {text(api.NdStr, "\""), true}, {text(api.NdStr, "\n"), false},
		{node(api.NdBool), true}, {number(1, node(api.NdBool)), true}, {number(2, node(api.NdBool)), false}, {text(api.NdBool, "true"), false},
		{node(api.NdOm), true}, {text(api.NdOm, "om"), false}, {number(1, node(api.NdOk)), false}, {node(api.NdNewat, x), false},
		{node(api.NdTuple), true}, {node(api.NdTuple, x, skip), false}, {node(api.NdTuple, times9(x)[1:]...), true}, {node(api.NdTuple, times9(x)...), false}, {node(api.NdSet, times9(x)...), false}, {number(api.VSet, node(api.NdSet)), false},
		{number(api.VTup, node(api.NdRange, x, x)), true}, {number(api.VSet, node(api.NdRange, x, x, x)), true}, {node(api.NdRange, x, x), false}, {number(api.VStr, node(api.NdRange, x, x)), false}, {number(9, node(api.NdRange, x, x)), false}, {number(api.VTup, node(api.NdRange, x)), false}, {number(api.VTup, node(api.NdRange, x, x, x, x)), false},
		{number(api.VTup, node(api.NdFormer, x, iters, none)), true}, {number(api.VSet, node(api.NdFormer, x, iters, x)), true}, {number(api.VSet, node(api.NdFormer, x, iters)), false}, {number(api.VSet, node(api.NdFormer, x, in, none)), false}, {number(api.VSet, node(api.NdFormer, none, iters, none)), false}, {node(api.NdFormer, x, iters, none), false},
		{node(api.NdQuant, iters, x), true}, {number(2, node(api.NdQuant, iters, x)), true}, {number(3, node(api.NdQuant, iters, x)), false}, {number(-1, node(api.NdQuant, iters, x)), false}, {node(api.NdQuant, iters, none), false}, {node(api.NdQuant, iters), false}, {node(api.NdQuant, node(api.NdIters), x), false},
		{node(api.NdQuant, node(api.NdIters, node(api.NdIn, skip, x)), x), true}, {node(api.NdQuant, node(api.NdIters, node(api.NdIn, one, x)), x), false}, {node(api.NdQuant, node(api.NdIters, node(api.NdIn, node(api.NdTuple), x)), x), false}, {node(api.NdQuant, node(api.NdIters, node(api.NdIn, node(api.NdTuple, times9(x)...), x)), x), false},
		{node(api.NdQuant, node(api.NdIters, node(api.NdAt, skip, one, node(api.NdTuple, x))), x), true}, {node(api.NdQuant, node(api.NdIters, node(api.NdAt, x, x, skip)), x), false}, {node(api.NdQuant, node(api.NdIters, node(api.NdImage, x, x, node(api.NdTuple, skip))), x), false}, {node(api.NdQuant, node(api.NdIters, node(api.NdImage, x, x, one)), x), false}, {node(api.NdQuant, node(api.NdIters, node(api.NdImage, x, x)), x), false},
		{iters, false}, {in, false}, {skip, false}, {none, false}, {node(api.NdList, x), false},
		{number(api.UnNeg, node(api.NdUn, x)), true}, {number(api.UnElt, node(api.NdUn, x)), true}, {node(api.NdUn, x), false}, {number(18, node(api.NdUn, x)), false}, {number(1, node(api.NdUn)), false}, {number(1, node(api.NdUn, x, x)), false},
		{number(api.BiAdd, node(api.NdBin, x, x)), true}, {number(api.BiMin, node(api.NdBin, x, x)), true}, {number(api.BiAnd, node(api.NdBin, x, x)), false}, {number(api.BiOr, node(api.NdBin, x, x)), false}, {node(api.NdBin, x, x), false}, {number(1, node(api.NdBin, x)), false},
		{node(api.NdAnd, x, x), true}, {number(api.BiAnd, node(api.NdAnd, x, x)), false}, {node(api.NdOr, x), false}, {node(api.NdImpl, x, x, x), false}, {node(api.NdElse, x, none), false},
		{number(api.BiAnd, node(api.NdFold, x)), true}, {number(api.BiOr, node(api.NdFold, x, x)), true}, {number(api.BiEq, node(api.NdFold, x)), false}, {number(api.BiIncs, node(api.NdFold, x, x)), false}, {number(1, node(api.NdFold)), false}, {number(1, node(api.NdFold, x, x, x)), false}, {number(26, node(api.NdFold, x)), false},
		{node(api.NdIfx, x, x, x), true}, {node(api.NdIfx, x, x, x, x, x), true}, {node(api.NdIfx, x, x), false}, {node(api.NdIfx, x), false}, {node(api.NdIfx), false}, {node(api.NdIfx, x, x, x, x), false},
		{node(api.NdSel, x), true}, {node(api.NdSel, append(times9(x)[1:], x)...), true}, {node(api.NdSel, append(times9(x), x)...), false}, {node(api.NdSel), false}, {node(api.NdSel, one, none), false},
		{node(api.NdImg, x, x), true}, {node(api.NdImg, x), false}, {node(api.NdImg, append(times9(x), x)...), false},
		{node(api.NdSlice, x, x, x), true}, {node(api.NdSlice, x, x, none), true}, {node(api.NdSlice, x, none, x), false}, {node(api.NdSlice, x, x), false},
		{node(api.NdBody), false}, {node(api.NdStop), false}, {label("p", node(api.NdProgram)), false}, {node(81), false}, {node(100), false},
	} {
		want := map[bool]api.Errno{true: api.OK, false: api.ErrForm}[c.ok]
		if e := parse.CheckExpr(c.n); e != want {
			t.Error(i, shown(c.n), e)
		}
		if e := parse.CheckBody(node(api.NdBody, node(api.NdAssert, c.n))); e != want {
			t.Error(i, shown(c.n), e)
		}
	}
}

// P8.3: what is assigned to, case by case.
func TestCheckLeft(t *testing.T) {
	x, one, none, skip := text(api.NdName, "x"), text(api.NdInt, "1"), node(api.NdNone), node(api.NdSkip)
	for i, c := range []struct {
		n         api.Node
		ok, place bool // place: no tuple, either
	}{
		{x, true, true}, {one, false, false}, {skip, false, false}, {none, false, false}, {node(api.NdOm), false, false},
		{node(api.NdSel, x, one), true, true}, {node(api.NdSel, x), false, false}, {node(api.NdSel, one, one), false, false}, {node(api.NdSel, node(api.NdSel, x), one), false, false},
		{node(api.NdImg, node(api.NdSlice, node(api.NdSel, x, one), one, none), one), true, true}, {node(api.NdImg, x), false, false}, {node(api.NdSlice, x, one), false, false},
		{node(api.NdTuple, x, skip), true, false}, {node(api.NdTuple, node(api.NdTuple, skip)), true, false}, {node(api.NdTuple), false, false}, {node(api.NdTuple, one), false, false}, {node(api.NdTuple, times9(x)...), false, false},
		{node(api.NdTuple, node(api.NdSel, x)), false, false}, {node(api.NdSel, node(api.NdTuple, x), one), false, false},
	} {
		form := func(ok bool) api.Errno { return map[bool]api.Errno{true: api.OK, false: api.ErrForm}[ok] }
		if e := parse.CheckLeft(c.n); e != form(c.ok) {
			t.Error(i, shown(c.n), e)
		}
		for _, s := range []struct {
			n  api.Node
			ok bool
		}{
			{node(api.NdAssign, c.n, one), c.ok}, {node(api.NdRead, x, c.n), c.ok}, {node(api.NdFrom, c.n, x), c.ok},
			{node(api.NdFrom, x, c.n), c.place}, {number(api.BiOr, node(api.NdChange, c.n, one)), c.place},
		} {
			if e := parse.CheckBody(node(api.NdBody, s.n)); e != form(s.ok) {
				t.Error(i, shown(s.n), e)
			}
		}
	}
}

// P8.3: statements, case by case.
func TestCheckBody(t *testing.T) {
	x, none, body, skip := text(api.NdName, "x"), node(api.NdNone), node(api.NdBody), node(api.NdSkip)
	call := node(api.NdSel, x)
	when := node(api.NdWhen, node(api.NdList, x), body)
	iters := node(api.NdIters, node(api.NdIn, skip, x))
	for i, c := range []struct {
		n  api.Node
		ok bool
	}{
		{x, false}, {body, false}, {call, false}, {none, false},
		{node(api.NdAssign, x, x), true}, {node(api.NdAssign, x), false}, {number(1, node(api.NdAssign, x, x)), false}, {node(api.NdAssign, x, skip), false},
		{number(api.BiEq, node(api.NdChange, x, x)), false}, {node(api.NdChange, x, x), false}, {number(api.BiAdd, node(api.NdChange, x)), false}, {number(3, node(api.NdFrom, x, x)), false}, {number(2, node(api.NdFrom, x, x)), true},
		{node(api.NdIf, x, body), true}, {node(api.NdIf, x, body, body), true}, {node(api.NdIf, x, body, x, body, body), true}, {node(api.NdIf, x), false}, {node(api.NdIf), false}, {node(api.NdIf, x, body, x), false}, {node(api.NdIf, body), false}, {node(api.NdIf, x, x), false},
		{node(api.NdCase, none, when), true}, {node(api.NdCase, x, when, when, body), true}, {node(api.NdCase, x), false}, {node(api.NdCase), false}, {node(api.NdCase, x, body), false}, {node(api.NdCase, when), false}, {node(api.NdCase, x, when, body, when), false}, {node(api.NdCase, x, when, body, body), false}, {node(api.NdCase, x, when, x), false},
		{node(api.NdCase, x, node(api.NdWhen, node(api.NdList), body)), false}, {node(api.NdCase, x, node(api.NdWhen, node(api.NdList, times9(x)...), body)), false}, {node(api.NdCase, x, node(api.NdWhen, node(api.NdList, times9(x)[1:]...), body)), true}, {node(api.NdCase, x, node(api.NdWhen, x, body)), false}, {node(api.NdCase, x, node(api.NdWhen, node(api.NdList, x))), false},
		{node(api.NdWhile, x, body), true}, {node(api.NdUntil, x, body), true}, {node(api.NdWhile, none, body), false}, {node(api.NdUntil, x), false},
		{node(api.NdFor, iters, none, body), true}, {node(api.NdFor, iters, x, body), true}, {node(api.NdFor, iters, body), false}, {node(api.NdFor, node(api.NdIters), none, body), false},
		{node(api.NdLoop, body), true}, {node(api.NdLoop), false}, {node(api.NdQuit), true}, {node(api.NdQuit, x), false}, {number(1, node(api.NdStop)), false}, {label("x", node(api.NdFail)), false},
		{node(api.NdReturn), true}, {node(api.NdReturn, x), true}, {node(api.NdReturn, x, x), false}, {node(api.NdReturn, none), false},
		{node(api.NdPrint), true}, {node(api.NdPrint, times9(x)[1:]...), true}, {node(api.NdPrint, times9(x)...), false}, {node(api.NdRead), false}, {node(api.NdRead, times9(x)...), false}, {node(api.NdRead, skip), false},
		{node(api.NdAssert), false}, {node(api.NdCall, call), true}, {node(api.NdCall, node(api.NdSel, node(api.NdSel, x), x)), true}, {node(api.NdCall, node(api.NdSel, node(api.NdImg, call, x))), true}, {node(api.NdCall, node(api.NdSel, node(api.NdImg, x))), false}, {node(api.NdCall, x), false}, {node(api.NdCall, node(api.NdImg, x, x)), false}, {node(api.NdCall, node(api.NdSel, node(api.NdOm))), false}, {node(api.NdCall), false}, {node(api.NdCall, node(api.NdSel, append(times9(x), x)...)), false},
		{node(api.NdWhen, node(api.NdList, x), body), false}, {node(api.NdVar, x), false}, {node(api.NdProc), false},
	} {
		want := map[bool]api.Errno{true: api.OK, false: api.ErrForm}[c.ok]
		if e := parse.CheckBody(node(api.NdBody, c.n)); e != want {
			t.Error(i, shown(c.n), e)
		}
		if e := parse.CheckBody(node(api.NdBody, node(api.NdStop), node(api.NdLoop, node(api.NdBody, c.n)))); e != want {
			t.Error(i, shown(c.n), e)
		}
	}
}

// P8.3: units, case by case.
func TestCheckUnit(t *testing.T) {
	x, body, one := text(api.NdName, "x"), node(api.NdBody), text(api.NdInt, "1")
	exports, decls, procs, params := node(api.NdExports), node(api.NdDecls), node(api.NdProcs), node(api.NdParams)
	program := func(decls, body, procs api.Node) api.Node { return label("p", node(api.NdProgram, decls, body, procs)) }
	declares := func(l ...api.Node) api.Node { return program(node(api.NdDecls, l...), body, procs) }
	has := func(params, decls api.Node) api.Node {
		return program(node(api.NdDecls), body, node(api.NdProcs, label("f", node(api.NdProc, params, decls, body))))
	}
	param := text(api.NdParam, "a")
	constant := func(x api.Node) api.Node { return declares(label("c", node(api.NdConst, x))) }
	for i, c := range []struct {
		n  api.Node
		ok bool
	}{
		{program(decls, body, procs), true}, {label("p#1", program(decls, body, procs)), true}, {label("end", program(decls, body, procs)), false}, {label("", program(decls, body, procs)), false}, {number(1, program(decls, body, procs)), false},
		{program(decls, procs, body), false}, {label("p", node(api.NdProgram, decls, body)), false}, {label("p", node(api.NdProgram, exports, decls, procs)), false},
		{label("m", node(api.NdModule, exports, decls, procs)), true}, {label("m", node(api.NdModule, node(api.NdExports, x, x), decls, procs)), true}, {label("m", node(api.NdModule, node(api.NdExports, one), decls, procs)), false}, {label("m", node(api.NdModule, decls, body, procs)), false},
		{declares(node(api.NdVar, x), node(api.NdUses, x, x)), true}, {declares(node(api.NdVar)), false}, {declares(node(api.NdUses)), false}, {declares(node(api.NdUses, one)), false}, {declares(x), false},
		{constant(one), true}, {constant(text(api.NdStr, "a")), true}, {constant(node(api.NdBool)), true}, {constant(number(api.UnNeg, node(api.NdUn, one))), true}, {constant(number(api.UnNeg, node(api.NdUn, text(api.NdDec, "1.5")))), true},
		{constant(number(api.UnNeg, node(api.NdUn, text(api.NdInt, "a")))), false}, {constant(number(api.UnNeg, node(api.NdUn, text(api.NdDec, "1.10")))), false},
		{constant(x), false}, {constant(number(api.UnLen, node(api.NdUn, one))), false}, {constant(number(api.UnNeg, node(api.NdUn, text(api.NdStr, "a")))), false}, {constant(number(api.UnNeg, node(api.NdUn, number(api.UnNeg, node(api.NdUn, one))))), false}, {constant(node(api.NdOm)), false}, {declares(label("c", node(api.NdConst))), false}, {declares(node(api.NdConst, one)), false},
		{has(params, decls), true}, {has(node(api.NdParams, param, number(1, param), number(2, param)), decls), true}, {has(node(api.NdParams, number(3, param)), decls), false}, {has(node(api.NdParams, number(-1, param)), decls), false}, {has(node(api.NdParams, x), decls), false}, {has(node(api.NdParams, times9(param)...), decls), false}, {has(node(api.NdParams, times9(param)[1:]...), decls), true}, {has(node(api.NdParams, text(api.NdParam, "")), decls), false},
		{has(params, node(api.NdDecls, node(api.NdVar, x))), true}, {has(params, node(api.NdDecls, node(api.NdUses, x))), false}, {has(params, node(api.NdDecls, label("c", node(api.NdConst, one)))), false},
		{program(decls, body, node(api.NdProcs, label("f", node(api.NdProc, params, decls)))), false}, {program(decls, body, node(api.NdProcs, node(api.NdProc, params, decls, body))), false}, {program(decls, body, node(api.NdProcs, body)), false},
		{body, false}, {x, false}, {procs, false}, {api.Node{}, false},
	} {
		want := map[bool]api.Errno{true: api.OK, false: api.ErrForm}[c.ok]
		if e := parse.CheckUnit(c.n); e != want {
			t.Error(i, shown(c.n), e)
		}
	}
}
