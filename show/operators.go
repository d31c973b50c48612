package show

import (
	"strings"

	"zermelo/api"
	"zermelo/parse"
)

// Levels of layer 8.
const (
	powerLevel = 9
	postLevel  = 11
)

// How operands group, as layer 8 tells it.
const (
	toLeft  = 1
	toRight = 2
	neither = 3
)

// always returns what asks for levels whatever the node is.
func always(levels ...int) func(api.Node) []int {
	return func(api.Node) []int { return levels }
}

// operands returns what levels the places of an operation's operands ask for.
func operands(n api.Node) []int {
	level, _, way := parse.Operator(n)
	switch {
	case level == powerLevel:
		return []int{level + 1, level - 1} // an exponent can have a sign
	case way == toLeft:
		return []int{level, level + 1}
	case way == toRight:
		return []int{level + 1, level}
	case way == neither:
		return []int{level + 1, level + 1}
	}
	return []int{level}
}

// makesFold reports whether a Kid's text, which begins with /, would make a fold of the operator that it is behind.
func makesFold(n api.Node, i int, text string) bool {
	return i == len(n.Kids)-1 && strings.HasPrefix(text, "/") && folds(n)
}

// folds reports whether a node's operator is one that folds, ahead of its last operand.
func folds(n api.Node) bool {
	switch n.Kind {
	case api.NdUn:
		return n.N == api.UnNeg
	case api.NdBin:
		return foldSign(n.N) != ""
	}
	return n.Kind == api.NdAnd || n.Kind == api.NdOr
}

// foldSign returns how an operator that folds is written; others have the empty string.
func foldSign(n int) string {
	_, sign, _ := parse.Operator(api.Node{Kind: api.NdFold, N: n})
	return sign
}

// prefix writes an operation of one operand.
func prefix(w *writer, n api.Node) string {
	_, sign, _ := parse.Operator(n)
	text := w.kid(n, 0)
	if (n.N == api.UnNeg || n.N == api.UnLen) && !strings.HasPrefix(text, "-") {
		return sign + text
	}
	return sign + " " + text
}

// infix writes an operation of two operands.
func infix(w *writer, n api.Node) string {
	_, sign, _ := parse.Operator(n)
	first := w.kid(n, 0)
	return first + " " + sign + " " + w.kid(n, 1)
}

// fold writes a fold, perhaps with a first value.
func fold(w *writer, n api.Node) string {
	text := foldSign(n.N) + "/ " + w.kid(n, len(n.Kids)-1)
	if len(n.Kids) == 1 {
		return text
	}
	return w.kid(n, 0) + " " + text
}
