package show_test

import (
	"math/rand"
	"strings"

	"zermelo/api"
)

// table is the levels of chapter 8: a level, a Kind, what the operands ahead and behind are asked for by chapter 9 (0: none ahead), and operators with their numbers.
var table = []struct {
	level, kind int
	first, last int
	signs       string
	numbers     []int
	folds       string // those of the operators that fold
}{
	{1, api.NdImpl, 2, 1, "impl", []int{0}, ""},
	{2, api.NdOr, 2, 3, "or", []int{0}, "or"},
	{3, api.NdAnd, 3, 4, "and", []int{0}, "and"},
	{4, api.NdUn, 0, 4, "not", []int{api.UnNot}, ""},
	{5, api.NdBin, 6, 6, "= /= < <= > >= in notin subset incs",
		[]int{api.BiEq, api.BiNe, api.BiLt, api.BiLe, api.BiGt, api.BiGe, api.BiIn, api.BiNotin, api.BiSubs, api.BiIncs}, ""},
	{6, api.NdBin, 6, 7, "+ - with less lessf npow max min",
		[]int{api.BiAdd, api.BiSub, api.BiWith, api.BiLess, api.BiLessf, api.BiNpow, api.BiMax, api.BiMin}, "+ - with less lessf npow max min"},
	{7, api.NdBin, 7, 8, "* / div mod", []int{api.BiMul, api.BiDiv, api.BiQuo, api.BiMod}, "* / div mod"},
	{8, api.NdUn, 0, 8, "- # arb pow domain range abs char str fix dec type isom inverse totuple toset",
		[]int{api.UnNeg, api.UnLen, api.UnArb, api.UnPow, api.UnDom, api.UnRan, api.UnAbs, api.UnChr, api.UnStr, api.UnFix, api.UnDec, api.UnTyp, api.UnOm, api.UnInv, api.UnTup, api.UnElt}, "-"},
	{9, api.NdBin, 10, 8, "**", []int{api.BiPow}, "**"},
	{10, api.NdElse, 10, 11, "?", []int{0}, ""},
}

// foldTable is the operators that fold, with their numbers.
var foldTable = map[string]int{
	"+": api.BiAdd, "-": api.BiSub, "*": api.BiMul, "/": api.BiDiv, "div": api.BiQuo, "mod": api.BiMod, "**": api.BiPow, "with": api.BiWith,
	"less": api.BiLess, "lessf": api.BiLessf, "npow": api.BiNpow, "max": api.BiMax, "min": api.BiMin, "and": api.BiAnd, "or": api.BiOr,
}

// signOf returns the operator of a fold or of a change.
func signOf(n int) string {
	for sign, number := range foldTable {
		if number == n {
			return sign
		}
	}
	return "@"
}

// rowOf returns the row of a node of an expression with an operator, and this.
func rowOf(n api.Node) (row int, sign string, is bool) {
	for i, r := range table {
		for j, number := range r.numbers {
			if r.kind == n.Kind && number == n.N {
				return i, strings.Fields(r.signs)[j], true
			}
		}
	}
	return 0, "@", false
}

// levelOf returns the level of an expression.
func levelOf(n api.Node) int {
	if n.Kind == api.NdFold {
		return []int{8, 6}[len(n.Kids)-1]
	}
	if n.Kind == api.NdQuant {
		return 0
	}
	if row, _, is := rowOf(n); is {
		return table[row].level
	}
	return 11
}

// teller writes trees a second time: as tokens and blanks, with marks where the text of a line ends. With a chance it writes parentheses, blanks, comments, large letters and long forms that need not be there.
type teller struct {
	pairs  int
	chance *rand.Rand
}

// often reports whether something happens that happens once in so many times.
func (w *teller) often(many int) bool { return w.chance != nil && w.chance.Intn(many) == 0 }

// expr writes an expression, in parentheses if its level is less than what is asked for, or if it begins with / behind an operator that folds.
func (w *teller) expr(n api.Node, asked int, behind bool) string {
	s := w.plainly(n)
	if levelOf(n) < asked || behind && s[0] == '/' || w.often(6) {
		w.pairs++
		return "(" + s + ")"
	}
	return s
}

// all writes expressions with commas between them.
func (w *teller) all(l []api.Node) string {
	s := ""
	for i, n := range l {
		if i > 0 {
			s += ", "
		}
		s += w.expr(n, -1, false)
	}
	return s
}

// plainly writes an expression without parentheses around it.
func (w *teller) plainly(n api.Node) string {
	if row, sign, is := rowOf(n); is {
		return w.operation(n, row, sign)
	}
	switch n.Kind {
	case api.NdStr:
		return `"` + strings.ReplaceAll(n.Text, `"`, `""`) + `"`
	case api.NdBool:
		return []string{"false", "true"}[n.N]
	case api.NdOm:
		return "om"
	case api.NdNewat:
		return "newat"
	case api.NdOk:
		return "ok"
	case api.NdFold:
		last := signOf(n.N) + "/ " + w.expr(n.Kids[len(n.Kids)-1], 9-len(n.Kids), false)
		if len(n.Kids) == 2 {
			return w.expr(n.Kids[0], 6, false) + " " + last
		}
		return last
	case api.NdTuple:
		return "[" + w.all(n.Kids) + "]"
	case api.NdSet:
		return "{" + w.all(n.Kids) + "}"
	case api.NdRange:
		k := len(n.Kids) - 1
		return w.closed(n, w.all(n.Kids[:k])+".."+w.all(n.Kids[k:]))
	case api.NdFormer:
		return w.former(n)
	case api.NdQuant:
		return []string{"exists ", "forall ", "notexists "}[n.N] + w.iters(n.Kids[0]) + " | " + w.all(n.Kids[1:])
	case api.NdIfx:
		s := "if " + w.all(n.Kids[:1]) + " then " + w.all(n.Kids[1:2])
		rest := n.Kids[2:]
		for ; len(rest) > 1; rest = rest[2:] {
			s += " elseif " + w.all(rest[:1]) + " then " + w.all(rest[1:2])
		}
		return s + " else " + w.all(rest) + " end"
	case api.NdSel, api.NdImg, api.NdSlice:
		return w.part(n, w.expr(n.Kids[0], 11, false))
	}
	return n.Text
}

// operation writes an operation.
func (w *teller) operation(n api.Node, row int, sign string) string {
	r := table[row]
	folds := " "+r.folds+" " != strings.Replace(" "+r.folds+" ", " "+sign+" ", "", 1)
	last := w.expr(n.Kids[len(n.Kids)-1], r.last, folds)
	switch {
	case r.first > 0:
		return w.expr(n.Kids[0], r.first, false) + " " + sign + " " + last
	case (sign == "-" || sign == "#") && last[0] != '-':
		return sign + last
	}
	return sign + " " + last
}

// closed writes a text in the brackets that N tells.
func (w *teller) closed(n api.Node, s string) string {
	signs := map[int]string{api.VTup: "[]", api.VSet: "{}"}[n.N]
	return signs[:1] + s + signs[1:]
}

// part writes a selection, image or slice.
func (w *teller) part(n api.Node, whole string) string {
	switch n.Kind {
	case api.NdSel:
		return whole + "(" + w.all(n.Kids[1:]) + ")"
	case api.NdImg:
		return whole + "{" + w.all(n.Kids[1:]) + "}"
	}
	s := whole + "(" + w.all(n.Kids[1:2]) + ".."
	if n.Kids[2].Kind != api.NdNone {
		s += w.all(n.Kids[2:])
	}
	return s + ")"
}

// simple reports whether a tree is made of names and tuples alone.
func simple(n api.Node) bool {
	is := n.Kind == api.NdName || n.Kind == api.NdTuple && len(n.Kids) > 0
	for _, x := range n.Kids {
		is = is && simple(x)
	}
	return is
}

// former writes a former.
func (w *teller) former(n api.Node) string {
	x, y, z := n.Kids[0], n.Kids[1], n.Kids[2]
	if z.Kind == api.NdNone {
		return w.closed(n, w.all(n.Kids[:1])+" : "+w.iters(y))
	}
	condition := " | " + w.all(n.Kids[2:])
	if in := y.Kids[0]; len(y.Kids) == 1 && in.Kind == api.NdIn && simple(x) && equal(lineless(x), lineless(in.Kids[0])) && !w.often(2) {
		return w.closed(n, w.pattern(x)+" in "+w.expr(in.Kids[1], 6, false)+condition)
	}
	return w.closed(n, w.all(n.Kids[:1])+" : "+w.iters(y)+condition)
}

// lineless returns a tree with the line 0 everywhere.
func lineless(n api.Node) api.Node {
	n = copied(n)
	each(&n, func(x *api.Node) { x.Line = 0 })
	return n
}

// iters writes iterators.
func (w *teller) iters(n api.Node) string {
	var l []string
	for _, x := range n.Kids {
		s := w.pattern(x.Kids[0])
		switch x.Kind {
		case api.NdIn:
			s += " in " + w.all(x.Kids[1:])
		case api.NdAt:
			s += " = " + w.expr(x.Kids[1], 11, false) + "(" + w.pattern(x.Kids[2]) + ")"
		case api.NdImage:
			s += " = " + w.expr(x.Kids[1], 11, false) + "{" + w.pattern(x.Kids[2]) + "}"
		}
		l = append(l, s)
	}
	return strings.Join(l, ", ")
}

// pattern writes a pattern, or a tuple that is assigned to.
func (w *teller) pattern(n api.Node) string {
	switch n.Kind {
	case api.NdSkip:
		return "-"
	case api.NdTuple:
		var l []string
		for _, x := range n.Kids {
			l = append(l, w.pattern(x))
		}
		return "[" + strings.Join(l, ", ") + "]"
	case api.NdSel, api.NdImg, api.NdSlice:
		return w.part(n, w.pattern(n.Kids[0]))
	}
	return n.Text
}

// patterns writes patterns, or what is assigned to.
func (w *teller) patterns(l []api.Node) string {
	var all []string
	for _, n := range l {
		all = append(all, w.pattern(n))
	}
	return strings.Join(all, ", ")
}

// statements writes a body.
func (w *teller) statements(n api.Node) string {
	s := ""
	for _, x := range n.Kids {
		s += w.statement(x)
	}
	return s
}

// inner writes a body two blanks further in.
func (w *teller) inner(n api.Node) string { return indented(w.statements(n)) }

// statement writes the lines of a statement.
func (w *teller) statement(n api.Node) string {
	k := n.Kids
	switch n.Kind {
	case api.NdIf:
		return w.branching(k)
	case api.NdCase:
		s := "case of\n"
		if k[0].Kind != api.NdNone {
			s = "case " + w.all(k[:1]) + " of\n"
		}
		for _, x := range k[1:] {
			if x.Kind == api.NdWhen {
				s += "when " + w.all(x.Kids[0].Kids) + ":\n" + w.inner(x.Kids[1])
			} else {
				s += "otherwise\n" + w.inner(x)
			}
		}
		return s + "end;\n"
	case api.NdWhile:
		return "while " + w.all(k[:1]) + " do\n" + w.inner(k[1]) + "end;\n"
	case api.NdUntil:
		return "until " + w.all(k[:1]) + " do\n" + w.inner(k[1]) + "end;\n"
	case api.NdFor:
		s := "for " + w.iters(k[0])
		if k[1].Kind != api.NdNone {
			s += " | " + w.all(k[1:2])
		}
		return s + " do\n" + w.inner(k[2]) + "end;\n"
	case api.NdLoop:
		return "loop do\n" + w.inner(k[0]) + "end;\n"
	}
	return w.short(n) + ";\n"
}

// branching writes conditions and their bodies.
func (w *teller) branching(k []api.Node) string {
	s := "if " + w.all(k[:1]) + " then\n" + w.inner(k[1])
	for k = k[2:]; len(k) > 1; k = k[2:] {
		s += "elseif " + w.all(k[:1]) + " then\n" + w.inner(k[1])
	}
	if len(k) == 1 {
		s += "else\n" + w.inner(k[0])
	}
	return s + "end;\n"
}

// short writes a statement of one line up to its ; .
func (w *teller) short(n api.Node) string {
	k := n.Kids
	switch n.Kind {
	case api.NdAssign:
		return w.pattern(k[0]) + " := " + w.all(k[1:])
	case api.NdChange:
		return w.pattern(k[0]) + " " + signOf(n.N) + " := " + w.all(k[1:])
	case api.NdFrom:
		return w.pattern(k[0]) + []string{" from ", " fromb ", " frome "}[n.N] + w.pattern(k[1])
	case api.NdCall:
		return w.pattern(k[0])
	case api.NdReturn:
		return strings.TrimSuffix("return "+w.all(k), " ")
	case api.NdAssert:
		return "assert " + w.all(k)
	case api.NdPrint:
		return "print(" + w.all(k) + ")"
	case api.NdRead:
		return "read(" + w.patterns(k) + ")"
	}
	return map[int]string{api.NdQuit: "quit", api.NdContinue: "continue", api.NdFail: "fail", api.NdSucceed: "succeed", api.NdStop: "stop"}[n.Kind]
}

// unit writes a unit.
func (w *teller) unit(n api.Node) string {
	k := n.Kids
	if n.Kind == api.NdProgram {
		return "program " + n.Text + ";\n" + indented(w.decls(k[0])+w.statements(k[1])+w.procs(k[2])) + "end;\n"
	}
	s := ""
	if len(k[0].Kids) > 0 {
		s = "exports " + w.patterns(k[0].Kids) + ";\n"
	}
	return "module " + n.Text + ";\n" + indented(s+w.decls(k[1])+w.procs(k[2])) + "end;\n"
}

// decls writes declarations.
func (w *teller) decls(n api.Node) string {
	s := ""
	for _, x := range n.Kids {
		switch x.Kind {
		case api.NdUses:
			s += "uses " + w.patterns(x.Kids)
		case api.NdVar:
			s += "var " + w.patterns(x.Kids)
		default:
			s += "const " + x.Text + " = " + (&teller{}).all(x.Kids)
		}
		s += ";\n"
	}
	return s
}

// procs writes procedures.
func (w *teller) procs(n api.Node) string {
	s := ""
	for _, x := range n.Kids {
		var params []string
		for _, p := range x.Kids[0].Kids {
			params = append(params, []string{"", "wr ", "rw "}[p.N]+p.Text)
		}
		s += "proc " + x.Text + "(" + strings.Join(params, ", ") + ");\n" + indented(w.decls(x.Kids[1])+w.statements(x.Kids[2])) + "end;\n"
	}
	return s
}
