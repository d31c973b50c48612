package parse_test

import (
	"math/rand"
	"regexp"
	"strconv"
	"strings"

	"zermelo/api"
	"zermelo/lex"
)

// table is the levels of the chapter: a level, a Kind, the level that the operands ahead and behind must have (0: none ahead), and operators with their numbers.
var table = []struct {
	level, kind  int
	first, last  int
	way          int
	signs        string
	numbers      []int
	foldOperator bool
}{
	{1, api.NdImpl, 2, 1, 2, "impl", []int{0}, false},
	{2, api.NdOr, 2, 3, 1, "or", []int{0}, true},
	{3, api.NdAnd, 3, 4, 1, "and", []int{0}, true},
	{4, api.NdUn, 0, 4, 0, "not", []int{api.UnNot}, false},
	{5, api.NdBin, 6, 6, 3, "= /= < <= > >= in notin subset incs",
		[]int{api.BiEq, api.BiNe, api.BiLt, api.BiLe, api.BiGt, api.BiGe, api.BiIn, api.BiNotin, api.BiSubs, api.BiIncs}, false},
	{6, api.NdBin, 6, 7, 1, "+ - with less lessf npow max min",
		[]int{api.BiAdd, api.BiSub, api.BiWith, api.BiLess, api.BiLessf, api.BiNpow, api.BiMax, api.BiMin}, true},
	{7, api.NdBin, 7, 8, 1, "* / div mod", []int{api.BiMul, api.BiDiv, api.BiQuo, api.BiMod}, true},
	{8, api.NdUn, 0, 8, 0, "- # arb pow domain range abs char str fix dec type isom inverse totuple toset",
		[]int{api.UnNeg, api.UnLen, api.UnArb, api.UnPow, api.UnDom, api.UnRan, api.UnAbs, api.UnChr, api.UnStr, api.UnFix, api.UnDec, api.UnTyp, api.UnOm, api.UnInv, api.UnTup, api.UnElt}, false},
	{9, api.NdBin, 10, 8, 2, "**", []int{api.BiPow}, true},
	{10, api.NdElse, 10, 11, 1, "?", []int{0}, false},
}

// foldTable is the operators that fold, with their numbers.
var foldTable = map[string]int{
	"+": api.BiAdd, "-": api.BiSub, "*": api.BiMul, "/": api.BiDiv, "div": api.BiQuo, "mod": api.BiMod, "**": api.BiPow, "with": api.BiWith,
	"less": api.BiLess, "lessf": api.BiLessf, "npow": api.BiNpow, "max": api.BiMax, "min": api.BiMin, "and": api.BiAnd, "or": api.BiOr,
}

// foldSign returns the operator of a fold.
func foldSign(n int) string {
	for sign, number := range foldTable {
		if number == n {
			return sign
		}
	}
	return "@"
}

// operation returns the row of a node of an expression with an operator, and this.
func operation(n api.Node) (row int, sign string, is bool) {
	for i, r := range table {
		for j, number := range r.numbers {
			if r.kind == n.Kind && number == n.N {
				return i, strings.Fields(r.signs)[j], true
			}
		}
	}
	return 0, "@", false
}

// levelOf returns the level of an expression.
func levelOf(n api.Node) int {
	if n.Kind == api.NdFold {
		return []int{8, 6}[len(n.Kids)/2%2]
	}
	if n.Kind == api.NdQuant {
		return 0
	}
	if row, _, is := operation(n); is {
		return table[row].level
	}
	return 11
}

// writer writes trees as tokens, and gives the nodes the lines that they should have. What cannot be written becomes a token that stands nowhere.
type writer struct {
	list   []api.Token
	line   int
	chance *rand.Rand // parentheses, short forms and line feeds by chance; none, if it is nil
}

// often reports whether something happens that happens once in so many times.
func (w *writer) often(many int) bool { return w.chance != nil && w.chance.Intn(many) == 0 }

// scans keeps what texts are scanned as.
var scans = map[string][]api.Token{}

// scanned returns the tokens of a text; one that stands nowhere, if it has an error.
func scanned(text string) []api.Token {
	l, known := scans[text]
	if known {
		return l
	}
	l, _, e := lex.Scan(text)
	if e != api.OK {
		l = []api.Token{{Kind: api.TkSign, Text: "@"}}
	}
	scans[text] = l
	return l
}

// add writes what a text is scanned as, and returns its line.
func (w *writer) add(text string) int {
	if w.often(4) {
		w.line++
	}
	for _, t := range scanned(text) {
		t.Line = w.line
		w.list = append(w.list, t)
	}
	return w.line
}

var freshName = regexp.MustCompile(`^([a-z][a-z0-9_]{0,23})#([1-9][0-9]{0,3})$`)

// name writes a name, perhaps a fresh one.
func (w *writer) name(text string) int {
	parts := freshName.FindStringSubmatch(text)
	if parts == nil {
		return w.add(text)
	}
	number, _ := strconv.Atoi(parts[2])
	if l := scanned(parts[1]); number > 6000 || len(l) != 1 || l[0].Kind != api.TkName {
		return w.add("@")
	}
	line := w.add("x")
	w.list[len(w.list)-1].Text = text
	return line
}

// words writes words with blanks between them.
func (w *writer) words(text string) {
	for _, word := range strings.Fields(text) {
		w.add(word)
	}
}

// broken writes that a node cannot be written.
func (w *writer) broken(n api.Node) api.Node {
	w.add("@")
	return n
}

// of returns a node with other Kids, which begins where the first one of them does.
func of(n api.Node, kids ...api.Node) api.Node {
	n.Kids, n.Line = kids, 0
	if len(kids) > 0 {
		n.Line = kids[0].Line
	}
	return n
}

// at returns a node with other Kids that begins at a line.
func at(n api.Node, line int, kids ...api.Node) api.Node {
	n.Kids, n.Line = kids, line
	return n
}

// several writes nodes with something between them.
func (w *writer) several(l []api.Node, between string, write func(api.Node) api.Node) []api.Node {
	var all []api.Node
	for i, n := range l {
		if i > 0 {
			w.words(between)
		}
		all = append(all, write(n))
	}
	return all
}

// expr writes an expression of any level.
func (w *writer) expr(n api.Node) api.Node { return w.operand(n, 0) }

// operand writes an expression, in parentheses if its level is less than what is asked for, or if it would make a fold of the operator ahead.
func (w *writer) operand(n api.Node, asked int) api.Node {
	if levelOf(n) < asked || w.often(9) {
		w.add("(")
		n = w.operand(n, 0)
		w.add(")")
		return n
	}
	from, line := len(w.list), w.line
	written := w.plainly(n)
	if from > 0 && from < len(w.list) && folds(w.list[from-1].Text) && w.list[from-1].Kind != api.TkStr && w.list[from].Text == "/" && w.list[from].Kind == api.TkSign {
		w.list, w.line = w.list[:from], line
		w.add("(")
		written = w.plainly(n)
		w.add(")")
	}
	return written
}

// plainly writes an expression without parentheses around it.
func (w *writer) plainly(n api.Node) api.Node {
	if row, sign, is := operation(n); is {
		return w.operation(n, row, sign)
	}
	switch n.Kind {
	case api.NdInt, api.NdDec:
		return at(n, w.add(n.Text), n.Kids...)
	case api.NdName:
		return at(n, w.name(n.Text), n.Kids...)
	case api.NdStr:
		return at(n, w.add(`"`+strings.ReplaceAll(n.Text, `"`, `""`)+`"`), n.Kids...)
	case api.NdBool:
		return at(n, w.add([]string{"false", "true"}[n.N&1]), n.Kids...)
	case api.NdOm, api.NdNewat, api.NdOk:
		return at(n, w.add(labels[n.Kind]), n.Kids...)
	case api.NdFold:
		return w.fold(n)
	case api.NdTuple:
		line := w.add("[")
		kids := w.several(n.Kids, ",", w.expr)
		w.add("]")
		return at(n, line, kids...)
	case api.NdSet:
		line := w.add("{")
		kids := w.several(n.Kids, ",", w.expr)
		w.add("}")
		return at(n, line, kids...)
	case api.NdRange, api.NdFormer:
		return w.brackets(n)
	case api.NdQuant:
		if len(n.Kids) == 2 && n.N >= 0 && n.N < 3 {
			line := w.add([]string{"exists", "forall", "notexists"}[n.N])
			iters := w.iters(n.Kids[0])
			w.add("|")
			return at(n, line, iters, w.expr(n.Kids[1]))
		}
	case api.NdIfx:
		line := w.add("if")
		kids, rest := w.branches(n.Kids, w.expr)
		if len(rest) == 1 {
			w.add("else")
			kids = append(kids, w.expr(rest[0]))
			w.add("end")
			return at(n, line, kids...)
		}
	case api.NdSel, api.NdImg, api.NdSlice:
		return w.part(n, func(n api.Node) api.Node { return w.operand(n, 11) })
	}
	return w.broken(n)
}

// operation writes an operation.
func (w *writer) operation(n api.Node, row int, sign string) api.Node {
	r := table[row]
	switch {
	case r.first == 0 && len(n.Kids) == 1:
		line := w.add(sign)
		return at(n, line, w.operand(n.Kids[0], r.last))
	case r.first > 0 && len(n.Kids) == 2:
		first := w.operand(n.Kids[0], r.first)
		w.add(sign)
		return of(n, first, w.operand(n.Kids[1], r.last))
	}
	return w.broken(n)
}

// fold writes a fold.
func (w *writer) fold(n api.Node) api.Node {
	switch len(n.Kids) {
	case 1:
		line := w.add(foldSign(n.N))
		w.add("/")
		return at(n, line, w.operand(n.Kids[0], 8))
	case 2:
		first := w.operand(n.Kids[0], 6)
		w.words(foldSign(n.N) + " /")
		return of(n, first, w.operand(n.Kids[1], 7))
	}
	return w.broken(n)
}

// branches writes conditions and what they lead to, and returns what is left of Kids.
func (w *writer) branches(l []api.Node, value func(api.Node) api.Node) (kids, rest []api.Node) {
	for len(l) > 1 {
		if len(kids) > 0 {
			w.add("elseif")
		}
		condition := w.expr(l[0])
		w.add("then")
		kids = append(kids, condition, value(l[1]))
		l = l[2:]
	}
	return kids, l
}

// simple reports whether a tree is made of names and tuples alone.
func simple(n api.Node) bool {
	is := n.Kind == api.NdName || n.Kind == api.NdTuple && len(n.Kids) > 0
	for _, x := range n.Kids {
		is = is && simple(x)
	}
	return is
}

// brackets writes a range or a former.
func (w *writer) brackets(n api.Node) api.Node {
	signs := map[int]string{api.VTup: "[]", api.VSet: "{}"}[n.N]
	if signs == "" || len(n.Kids) < 2 || len(n.Kids) > 3 {
		return w.broken(n)
	}
	line := w.add(signs[:1])
	defer func() { w.add(signs[1:]) }()
	if n.Kind == api.NdRange {
		kids := w.several(n.Kids[:len(n.Kids)-1], ",", w.expr)
		w.add("..")
		return at(n, line, append(kids, w.expr(n.Kids[len(n.Kids)-1]))...)
	}
	if len(n.Kids) < 3 {
		return w.broken(n)
	}
	first, iters, last := n.Kids[0], n.Kids[1], n.Kids[2]
	if len(iters.Kids) == 1 && iters.Kids[0].Kind == api.NdIn && last.Kind != api.NdNone && w.often(2) {
		in := iters.Kids[0]
		if len(in.Kids) == 2 && simple(first) && shown(first) == shown(in.Kids[0]) {
			pair := w.expr(api.Node{Kind: api.NdBin, N: api.BiIn, Kids: in.Kids})
			w.add("|")
			in = of(in, pair.Kids...)
			return at(n, line, pair.Kids[0], of(iters, in), w.expr(last))
		}
	}
	first = w.expr(first)
	w.add(":")
	iters = w.iters(iters)
	return at(n, line, first, iters, w.condition(last))
}

// condition writes a condition, or nothing.
func (w *writer) condition(n api.Node) api.Node {
	if n.Kind == api.NdNone {
		return at(n, 0, n.Kids...)
	}
	w.add("|")
	return w.expr(n)
}

// iters writes iterators.
func (w *writer) iters(n api.Node) api.Node {
	if n.Kind != api.NdIters {
		return w.broken(n)
	}
	return of(n, w.several(n.Kids, ",", w.iter)...)
}

// iter writes an iterator.
func (w *writer) iter(n api.Node) api.Node {
	signs := map[int]string{api.NdAt: "()", api.NdImage: "{}"}[n.Kind]
	switch {
	case n.Kind == api.NdIn && len(n.Kids) == 2:
		first := w.pattern(n.Kids[0])
		w.add("in")
		return of(n, first, w.expr(n.Kids[1]))
	case signs != "" && len(n.Kids) == 3:
		first := w.pattern(n.Kids[0])
		w.add("=")
		if w.often(9) {
			w.add("(")
			defer func() { w.add(")") }()
		}
		applied := w.operand(n.Kids[1], 11)
		w.add(signs[:1])
		operand := w.expr(n.Kids[2])
		w.add(signs[1:])
		return of(n, first, applied, operand)
	}
	return w.broken(n)
}

// pattern writes a pattern.
func (w *writer) pattern(n api.Node) api.Node {
	switch n.Kind {
	case api.NdName:
		return at(n, w.name(n.Text), n.Kids...)
	case api.NdSkip:
		return at(n, w.add("-"), n.Kids...)
	case api.NdTuple:
		line := w.add("[")
		kids := w.several(n.Kids, ",", w.pattern)
		w.add("]")
		return at(n, line, kids...)
	}
	return w.broken(n)
}

// part writes a selection, image or slice of something.
func (w *writer) part(n api.Node, whole func(api.Node) api.Node) api.Node {
	if len(n.Kids) == 0 || n.Kind == api.NdSlice && len(n.Kids) != 3 {
		return w.broken(n)
	}
	kids := []api.Node{whole(n.Kids[0])}
	signs := map[bool]string{true: "{}", false: "()"}[n.Kind == api.NdImg]
	w.add(signs[:1])
	if n.Kind == api.NdSlice {
		kids = append(kids, w.expr(n.Kids[1]))
		w.add("..")
		last := at(n.Kids[2], 0, n.Kids[2].Kids...)
		if last.Kind != api.NdNone {
			last = w.expr(last)
		}
		kids = append(kids, last)
	} else {
		kids = append(kids, w.several(n.Kids[1:], ",", w.expr)...)
	}
	w.add(signs[1:])
	return of(n, kids...)
}

// place writes what begins with a name.
func (w *writer) place(n api.Node) api.Node {
	switch n.Kind {
	case api.NdName:
		return at(n, w.name(n.Text), n.Kids...)
	case api.NdSel, api.NdImg, api.NdSlice:
		return w.part(n, w.place)
	}
	return w.broken(n)
}

// left writes what is assigned to.
func (w *writer) left(n api.Node) api.Node {
	if n.Kind != api.NdTuple {
		return w.place(n)
	}
	line := w.add("[")
	kids := w.several(n.Kids, ",", func(n api.Node) api.Node {
		if n.Kind == api.NdSkip {
			return at(n, w.add("-"), n.Kids...)
		}
		return w.left(n)
	})
	w.add("]")
	return at(n, line, kids...)
}
