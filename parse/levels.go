package parse

import "zermelo/api"

// The level of a primary, and of what follows one.
const (
	quantLevel = 0
	postLevel  = 11
)

// How operands group.
const (
	alone   = 0 // there is one operand
	toLeft  = 1
	toRight = 2
	neither = 3
)

// operator is an operator as it is written, and its number.
type operator struct {
	sign string
	n    int
}

// form is how expressions of a level are written: an operand ahead of an operator, or none, and an operand behind it.
type form struct {
	level     int
	kind      int
	first     int                      // the least level of the operand ahead; 0: there is none
	last      func(p *parser) api.Node // reads the operand behind
	way       int                      // how operands group
	operators []operator
}

// forms returns the forms of all levels.
func forms() []form {
	return []form{
		{1, api.NdImpl, 2, ofLevel(1), toRight, []operator{{"impl", 0}}},
		{2, api.NdOr, 2, ofLevel(3), toLeft, []operator{{"or", 0}}},
		{3, api.NdAnd, 3, ofLevel(4), toLeft, []operator{{"and", 0}}},
		{4, api.NdUn, 0, ofLevel(4), alone, []operator{{"not", api.UnNot}}},
		{5, api.NdBin, 6, ofLevel(6), neither, comparing()},
		{6, api.NdBin, 6, ofLevel(7), toLeft, adding()},
		{6, api.NdFold, 6, ofLevel(7), toLeft, folding()},
		{7, api.NdBin, 7, ofLevel(8), toLeft, multiplying()},
		{8, api.NdUn, 0, ofLevel(8), alone, changing()},
		{8, api.NdFold, 0, ofLevel(8), alone, folding()},
		{9, api.NdBin, 10, ofLevel(8), toRight, []operator{{"**", api.BiPow}}},
		{10, api.NdElse, 10, (*parser).post, toLeft, []operator{{"?", 0}}},
	}
}

// ofLevel returns what reads an expression of a level.
func ofLevel(level int) func(p *parser) api.Node {
	return func(p *parser) api.Node { return p.expr(level) }
}

// comparing returns the operators of the level 5.
func comparing() []operator {
	return []operator{
		{"=", api.BiEq}, {"/=", api.BiNe}, {"<", api.BiLt}, {"<=", api.BiLe}, {">", api.BiGt}, {">=", api.BiGe},
		{"in", api.BiIn}, {"notin", api.BiNotin}, {"subset", api.BiSubs}, {"incs", api.BiIncs},
	}
}

// adding returns the operators of the level 6.
func adding() []operator {
	return []operator{
		{"+", api.BiAdd}, {"-", api.BiSub}, {"with", api.BiWith}, {"less", api.BiLess},
		{"lessf", api.BiLessf}, {"npow", api.BiNpow}, {"max", api.BiMax}, {"min", api.BiMin},
	}
}

// multiplying returns the operators of the level 7.
func multiplying() []operator {
	return []operator{{"*", api.BiMul}, {"/", api.BiDiv}, {"div", api.BiQuo}, {"mod", api.BiMod}}
}

// folding returns the operators that fold.
func folding() []operator {
	others := []operator{{"**", api.BiPow}, {"and", api.BiAnd}, {"or", api.BiOr}}
	return append(append(adding(), multiplying()...), others...)
}

// changing returns the operators of the level 8.
func changing() []operator {
	return []operator{
		{"-", api.UnNeg}, {"#", api.UnLen}, {"arb", api.UnArb}, {"pow", api.UnPow},
		{"domain", api.UnDom}, {"range", api.UnRan}, {"abs", api.UnAbs}, {"char", api.UnChr},
		{"str", api.UnStr}, {"fix", api.UnFix}, {"dec", api.UnDec}, {"type", api.UnTyp},
		{"isom", api.UnOm}, {"inverse", api.UnInv}, {"totuple", api.UnTup}, {"toset", api.UnElt},
	}
}

// fold is how the operator of a fold is looked up.
func fold(sign string) string { return sign + "/" }

// formed is the form of an expression, and the number of its operator.
type formed struct {
	form
	n int
}

// byOperator returns the forms with an operand ahead of their operators, or those without one, by these.
func byOperator(ahead bool) map[string]*formed {
	found := map[string]*formed{}
	for _, f := range forms() {
		if (f.first > 0) != ahead {
			continue
		}
		for _, o := range f.operators {
			if f.kind == api.NdFold {
				o.sign = fold(o.sign)
			}
			found[o.sign] = &formed{f, o.n}
		}
	}
	return found
}

// foldNumbers returns the numbers of the operators that fold.
func foldNumbers() map[string]int {
	found := map[string]int{}
	for _, o := range folding() {
		found[o.sign] = o.n
	}
	return found
}

// has reports whether a node is one of a form; its N is looked at elsewhere.
func (f form) has(n api.Node) bool {
	return f.kind == n.Kind && (f.kind != api.NdFold || (f.first > 0) == (len(n.Kids) == 2))
}

// formOf returns the form and the operator of a node.
func formOf(n api.Node) (form, string, bool) {
	for _, f := range forms() {
		if !f.has(n) {
			continue
		}
		for _, o := range f.operators {
			if o.n == n.N || o.n == 0 {
				return f, o.sign, true
			}
		}
	}
	return form{}, "", false
}

// level returns the level of a node of an expression; -1 for others.
func level(n api.Node) int {
	if f, _, is := formOf(n); is {
		return f.level
	}
	switch n.Kind {
	case api.NdQuant:
		return quantLevel
	case api.NdInt, api.NdDec, api.NdStr, api.NdName, api.NdBool, api.NdOm, api.NdNewat, api.NdOk,
		api.NdTuple, api.NdSet, api.NdRange, api.NdFormer, api.NdIfx, api.NdSel, api.NdImg, api.NdSlice:
		return postLevel
	}
	return -1
}
