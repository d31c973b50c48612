package parse

import "zermelo/api"

// role is what a node stands for in a tree.
type role int

const (
	asUnit role = iota
	asExports
	asDecls
	asVars // the declarations of a procedure
	asProcs
	asDecl
	asVar
	asProc
	asParams
	asParam
	asBody
	asStatement
	asBranch
	asOther // the last branch of a case, or what is otherwise
	asValues
	asIters
	asIter
	asName
	asPattern
	asPlain
	asLeft
	asPart  // of a tuple that is assigned to
	asPlace // what is assigned to and is no tuple
	asCall
	asCalled // what a call begins with
	asNumber
	asLiteral
	asMaybe // an expression, or nothing
	asExpr
)

// shape is what nodes have: the Kind of the token that their Text is (0: none), their N (nil: 0), and the roles of so many Kids (nil: none).
type shape struct {
	text int
	n    func(n int) bool
	kids func(many int) ([]role, bool)
}

// fixed is the shape of nodes with just these Kids.
func fixed(roles ...role) shape { return shape{kids: exactly(roles...)} }

// exactly returns what asks for just these Kids.
func exactly(roles ...role) func(int) ([]role, bool) {
	return func(many int) ([]role, bool) { return roles, many == len(roles) }
}

// each returns what asks for Kids of one role behind those of others, from so many to so many.
func each(r role, least, most int, ahead ...role) func(int) ([]role, bool) {
	return func(many int) ([]role, bool) {
		if many < len(ahead)+least || many-len(ahead) > most {
			return nil, false
		}
		roles := append([]role(nil), ahead...)
		for len(roles) < many {
			roles = append(roles, r)
		}
		return roles, true
	}
}

// named makes a shape that of nodes with a name.
func (s shape) named() shape {
	s.text = api.TkName
	return s
}

// numbered makes a shape that of nodes with a number.
func (s shape) numbered(n func(int) bool) shape {
	s.n = n
	return s
}

// between returns what asks for a number from a to b.
func between(a, b int) func(int) bool {
	return func(n int) bool { return a <= n && n <= b }
}

// foldNumber reports whether a number is that of an operator that folds.
func foldNumber(n int) bool {
	for _, o := range folding() {
		if o.n == n {
			return true
		}
	}
	return false
}

// conditions returns what asks for conditions and what each leads to, and perhaps for what is otherwise.
func conditions(value role, other bool) func(int) ([]role, bool) {
	return func(many int) ([]role, bool) {
		var roles []role
		for len(roles)+1 < many {
			roles = append(roles, asExpr, value)
		}
		if len(roles) < many {
			roles = append(roles, value)
			return roles, many > 1
		}
		return roles, many > 0 && !other
	}
}

// branches asks for what a case looks at, branches, and perhaps what is otherwise.
func branches(many int) ([]role, bool) {
	if many > 2 {
		all := each(asBranch, 1, anyMany, asMaybe)
		roles, _ := all(many - 1)
		return append(roles, asOther), true
	}
	return []role{asMaybe, asBranch}, many == 2
}

// join returns the shapes of all tables.
func join(tables ...map[int]shape) map[int]shape {
	all := map[int]shape{}
	for _, table := range tables {
		for kind, s := range table {
			all[kind] = s
		}
	}
	return all
}

// shapesOf returns which Kinds of nodes can have a role, and their shapes.
func shapesOf(r role) map[int]shape {
	switch {
	case r <= asParam:
		return unitShapes(r)
	case r <= asValues:
		return bodyShapes(r)
	case r <= asCalled:
		return partShapes(r)
	}
	return exprShapes(r)
}

// unitShapes returns the shapes of units and what they declare.
func unitShapes(r role) map[int]shape {
	names := shape{kids: each(asName, 1, anyMany)}
	switch r {
	case asUnit:
		return map[int]shape{
			api.NdProgram: fixed(asDecls, asBody, asProcs).named(),
			api.NdModule:  fixed(asExports, asDecls, asProcs).named(),
		}
	case asExports:
		return map[int]shape{api.NdExports: {kids: each(asName, 0, anyMany)}}
	case asDecls:
		return map[int]shape{api.NdDecls: {kids: each(asDecl, 0, anyMany)}}
	case asVars:
		return map[int]shape{api.NdDecls: {kids: each(asVar, 0, anyMany)}}
	case asProcs:
		return map[int]shape{api.NdProcs: {kids: each(asProc, 0, anyMany)}}
	case asDecl:
		return map[int]shape{api.NdUses: names, api.NdVar: names, api.NdConst: fixed(asLiteral).named()}
	case asVar:
		return map[int]shape{api.NdVar: names}
	case asProc:
		return map[int]shape{api.NdProc: fixed(asParams, asVars, asBody).named()}
	case asParams:
		return map[int]shape{api.NdParams: {kids: each(asParam, 0, api.MaxParams)}}
	}
	return map[int]shape{api.NdParam: shape{}.named().numbered(between(api.MdRd, api.MdRw))}
}

// bodyShapes returns the shapes of bodies, statements and branches.
func bodyShapes(r role) map[int]shape {
	body := map[int]shape{api.NdBody: {kids: each(asStatement, 0, anyMany)}}
	branch := map[int]shape{api.NdWhen: fixed(asValues, asBody)}
	switch r {
	case asBody:
		return body
	case asStatement:
		return join(simpleShapes(), nestedShapes())
	case asBranch:
		return branch
	case asOther:
		return join(branch, body)
	}
	return map[int]shape{api.NdList: {kids: each(asExpr, 1, api.MaxParams)}}
}

// simpleShapes returns the shapes of statements without others in them.
func simpleShapes() map[int]shape {
	return map[int]shape{
		api.NdAssign:   fixed(asLeft, asExpr),
		api.NdChange:   fixed(asPlace, asExpr).numbered(foldNumber),
		api.NdFrom:     fixed(asLeft, asPlace).numbered(between(api.FrArb, api.FrLast)),
		api.NdQuit:     {},
		api.NdContinue: {},
		api.NdReturn:   {kids: each(asExpr, 0, 1)},
		api.NdFail:     {},
		api.NdSucceed:  {},
		api.NdPrint:    {kids: each(asExpr, 0, api.MaxParams)},
		api.NdRead:     {kids: each(asLeft, 1, api.MaxParams)},
		api.NdAssert:   fixed(asExpr),
		api.NdStop:     {},
		api.NdCall:     fixed(asCall),
	}
}

// nestedShapes returns the shapes of statements with others in them.
func nestedShapes() map[int]shape {
	return map[int]shape{
		api.NdIf:    {kids: conditions(asBody, false)},
		api.NdCase:  {kids: branches},
		api.NdWhile: fixed(asExpr, asBody),
		api.NdUntil: fixed(asExpr, asBody),
		api.NdFor:   fixed(asIters, asMaybe, asBody),
		api.NdLoop:  fixed(asBody),
	}
}

// partShapes returns the shapes of iterators, patterns, and what is assigned to or called.
func partShapes(r role) map[int]shape {
	name := map[int]shape{api.NdName: shape{}.named()}
	skip := map[int]shape{api.NdSkip: {}}
	switch r {
	case asIters:
		return map[int]shape{api.NdIters: {kids: each(asIter, 1, anyMany)}}
	case asIter:
		equal := fixed(asPattern, asExpr, asPlain)
		return map[int]shape{api.NdIn: fixed(asPattern, asExpr), api.NdAt: equal, api.NdImage: equal}
	case asName:
		return name
	case asPattern:
		return join(name, skip, tupleShapes(asPattern))
	case asPlain:
		return join(name, tupleShapes(asPlain))
	case asLeft:
		return join(placeShapes(asPlace, 1), tupleShapes(asPart))
	case asPart:
		return join(placeShapes(asPlace, 1), tupleShapes(asPart), skip)
	case asPlace:
		return placeShapes(asPlace, 1)
	case asCall:
		return map[int]shape{api.NdSel: {kids: each(asExpr, 0, api.MaxParams, asCalled)}}
	}
	return placeShapes(asCalled, 0)
}

// tupleShapes returns the shape of tuples of parts that have a role.
func tupleShapes(part role) map[int]shape {
	return map[int]shape{api.NdTuple: {kids: each(part, 1, api.MaxParams)}}
}

// placeShapes returns the shapes of names and of parts of what is named, where selections have at least so many operands.
func placeShapes(whole role, least int) map[int]shape {
	return map[int]shape{
		api.NdName:  shape{}.named(),
		api.NdSel:   {kids: each(asExpr, least, api.MaxParams, whole)},
		api.NdImg:   {kids: each(asExpr, 1, api.MaxParams, whole)},
		api.NdSlice: fixed(whole, asExpr, asMaybe),
	}
}

// exprShapes returns the shapes of expressions.
func exprShapes(r role) map[int]shape {
	switch r {
	case asNumber:
		return map[int]shape{api.NdInt: {text: api.TkInt}, api.NdDec: {text: api.TkDec}}
	case asLiteral:
		return literalShapes()
	case asMaybe:
		return join(exprShapes(asExpr), map[int]shape{api.NdNone: {}})
	}
	return join(literalShapes(), placeShapes(asExpr, 0), bracketShapes(), operationShapes())
}

// literalShapes returns the shapes of literals.
func literalShapes() map[int]shape {
	return map[int]shape{
		api.NdInt:  {text: api.TkInt},
		api.NdDec:  {text: api.TkDec},
		api.NdStr:  {text: api.TkStr},
		api.NdBool: shape{}.numbered(between(0, 1)),
		api.NdUn:   fixed(asNumber).numbered(between(api.UnNeg, api.UnNeg)),
	}
}

// bracketShapes returns the shapes of primaries that are not literals.
func bracketShapes() map[int]shape {
	sorts := between(api.VTup, api.VSet)
	elements := shape{kids: each(asExpr, 0, api.MaxParams)}
	return map[int]shape{
		api.NdOm:     {},
		api.NdNewat:  {},
		api.NdOk:     {},
		api.NdTuple:  elements,
		api.NdSet:    elements,
		api.NdRange:  shape{kids: each(asExpr, 2, 3)}.numbered(sorts),
		api.NdFormer: fixed(asExpr, asIters, asMaybe).numbered(sorts),
		api.NdQuant:  fixed(asIters, asExpr).numbered(between(api.QtExists, api.QtNotexists)),
		api.NdIfx:    {kids: conditions(asExpr, true)},
	}
}

// operationShapes returns the shapes of operations.
func operationShapes() map[int]shape {
	two := fixed(asExpr, asExpr)
	return map[int]shape{
		api.NdUn:   fixed(asExpr).numbered(between(api.UnNeg, api.UnElt)),
		api.NdBin:  two.numbered(between(api.BiAdd, api.BiMin)),
		api.NdAnd:  two,
		api.NdOr:   two,
		api.NdImpl: two,
		api.NdElse: two,
		api.NdFold: shape{kids: each(asExpr, 1, 2)}.numbered(foldNumber),
	}
}
