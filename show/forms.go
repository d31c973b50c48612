package show

import (
	"strings"

	"zermelo/api"
	"zermelo/guard"
	"zermelo/parse"
)

// form is how nodes of a Kind are written within a line, and what levels the places of their first Kids ask for; 0, and no function, ask for nothing.
type form struct {
	text func(w *writer, n api.Node) string
	asks func(n api.Node) []int
}

// writer writes texts of nodes within a line.
type writer struct {
	forms map[int]form
	pairs int // operands that have been put in parentheses
}

// text returns the text of a node.
func (w *writer) text(n api.Node) string {
	f, is := w.forms[n.Kind]
	guard.Demand(is, api.ErrForm)
	return f.text(w, n)
}

// kid returns the text of a Kid, in parentheses where they have to be.
func (w *writer) kid(n api.Node, i int) string {
	text := w.text(n.Kids[i])
	if !w.weak(n, i) && !makesFold(n, i, text) {
		return text
	}
	w.pairs++
	return "(" + text + ")"
}

// weak reports whether the level of a Kid is less than what its place asks for.
func (w *writer) weak(n api.Node, i int) bool {
	asks := w.forms[n.Kind].asks
	if asks == nil {
		return false
	}
	levels := asks(n)
	return i < len(levels) && levels[i] > 0 && parse.Level(n.Kids[i]) < levels[i]
}

// kids returns the texts of Kids, from one on, with commas between them.
func (w *writer) kids(n api.Node, from int) string {
	var texts []string
	for i := from; i < len(n.Kids); i++ {
		texts = append(texts, w.kid(n, i))
	}
	return strings.Join(texts, ", ")
}

// formsOf returns the forms of all Kinds that are written within a line.
func formsOf() map[int]form {
	all := map[int]form{}
	for _, table := range []map[int]form{leafForms(), bracketForms(), operationForms(), statementForms(), declForms()} {
		for kind, f := range table {
			all[kind] = f
		}
	}
	return all
}

// leafForms returns the forms of what has no Kids.
func leafForms() map[int]form {
	return map[int]form{
		api.NdInt:      {text: ownText},
		api.NdDec:      {text: ownText},
		api.NdStr:      {text: quoted},
		api.NdName:     {text: ownText},
		api.NdBool:     {text: numbered("false", "true")},
		api.NdOm:       {text: fixed("om")},
		api.NdNewat:    {text: fixed("newat")},
		api.NdOk:       {text: fixed("ok")},
		api.NdSkip:     {text: fixed("-")},
		api.NdNone:     {text: fixed("")},
		api.NdQuit:     {text: fixed("quit")},
		api.NdContinue: {text: fixed("continue")},
		api.NdFail:     {text: fixed("fail")},
		api.NdSucceed:  {text: fixed("succeed")},
		api.NdStop:     {text: fixed("stop")},
		api.NdParam:    {text: param},
	}
}

// bracketForms returns the forms of expressions that are no operations, and of their parts.
func bracketForms() map[int]form {
	return map[int]form{
		api.NdTuple:  {text: listed("[", "]")},
		api.NdSet:    {text: listed("{", "}")},
		api.NdRange:  {text: rangeText},
		api.NdFormer: {text: former},
		api.NdIters:  {text: listed("", "")},
		api.NdList:   {text: listed("", "")},
		api.NdIn:     {text: between(" in ")},
		api.NdAt:     {text: applied("(", ")"), asks: always(0, postLevel)},
		api.NdImage:  {text: applied("{", "}"), asks: always(0, postLevel)},
		api.NdQuant:  {text: quantified},
		api.NdIfx:    {text: choice},
		api.NdSel:    {text: selected("(", ")"), asks: always(postLevel)},
		api.NdImg:    {text: selected("{", "}"), asks: always(postLevel)},
		api.NdSlice:  {text: slice, asks: always(postLevel)},
	}
}

// operationForms returns the forms of operations.
func operationForms() map[int]form {
	return map[int]form{
		api.NdUn:   {text: prefix, asks: operands},
		api.NdBin:  {text: infix, asks: operands},
		api.NdAnd:  {text: infix, asks: operands},
		api.NdOr:   {text: infix, asks: operands},
		api.NdImpl: {text: infix, asks: operands},
		api.NdElse: {text: infix, asks: operands},
		api.NdFold: {text: fold, asks: operands},
	}
}

// statementForms returns the forms of statements without others in them, up to the ; behind them.
func statementForms() map[int]form {
	return map[int]form{
		api.NdAssign: {text: between(" := ")},
		api.NdChange: {text: change},
		api.NdFrom:   {text: taking},
		api.NdReturn: {text: returned},
		api.NdPrint:  {text: listed("print(", ")")},
		api.NdRead:   {text: listed("read(", ")")},
		api.NdAssert: {text: listed("assert ", "")},
		api.NdCall:   {text: listed("", "")},
	}
}

// declForms returns the forms of declarations.
func declForms() map[int]form {
	return map[int]form{
		api.NdUses:   {text: listed("uses ", "")},
		api.NdVar:    {text: listed("var ", "")},
		api.NdConst:  {text: constant},
		api.NdParams: {text: listed("", "")},
	}
}
