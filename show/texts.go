package show

import (
	"zermelo/api"
	"zermelo/guard"
	"zermelo/lex"
	"zermelo/parse"
)

// ownText writes what is written as its Text.
func ownText(_ *writer, n api.Node) string { return n.Text }

// quoted writes a string.
func quoted(_ *writer, n api.Node) string { return guard.Must(lex.Quote(n.Text)) }

// fixed returns what writes the same text for all nodes.
func fixed(text string) func(*writer, api.Node) string {
	return func(*writer, api.Node) string { return text }
}

// numbered returns what writes the text that N is the number of.
func numbered(texts ...string) func(*writer, api.Node) string {
	return func(_ *writer, n api.Node) string { return texts[n.N] }
}

// listed returns what writes all Kids between two texts.
func listed(opening, closing string) func(*writer, api.Node) string {
	return func(w *writer, n api.Node) string { return opening + w.kids(n, 0) + closing }
}

// between returns what writes a text between two Kids.
func between(text string) func(*writer, api.Node) string {
	return func(w *writer, n api.Node) string {
		first := w.kid(n, 0)
		return first + text + w.kid(n, 1)
	}
}

// selected returns what writes the first Kid, and the others between two texts.
func selected(opening, closing string) func(*writer, api.Node) string {
	return func(w *writer, n api.Node) string {
		first := w.kid(n, 0)
		return first + opening + w.kids(n, 1) + closing
	}
}

// applied returns what writes an iterator over what something has for an operand.
func applied(opening, closing string) func(*writer, api.Node) string {
	return func(w *writer, n api.Node) string {
		first := w.kid(n, 0)
		second := w.kid(n, 1)
		return first + " = " + second + opening + w.kid(n, 2) + closing
	}
}

// slice writes a slice.
func slice(w *writer, n api.Node) string {
	first := w.kid(n, 0)
	second := w.kid(n, 1)
	return first + "(" + second + ".." + w.kid(n, 2) + ")"
}

// inBrackets puts a text in the brackets of tuples or sets.
func inBrackets(sort int, text string) string {
	if sort == api.VSet {
		return "{" + text + "}"
	}
	return "[" + text + "]"
}

// rangeText writes a range.
func rangeText(w *writer, n api.Node) string {
	last := len(n.Kids) - 1
	ahead := api.Node{Kind: api.NdList, Kids: n.Kids[:last]}
	first := w.text(ahead)
	return inBrackets(n.N, first+".."+w.kid(n, last))
}

// former writes a former.
func former(w *writer, n api.Node) string {
	iters, condition := n.Kids[1], n.Kids[2]
	if chosen(n) {
		in := api.Node{Kind: api.NdBin, N: api.BiIn, Kids: iters.Kids[0].Kids} // that is how it is read
		return inBrackets(n.N, w.under(w.text(in), condition))
	}
	first := w.kid(n, 0)
	return inBrackets(n.N, w.under(first+" : "+w.text(iters), condition))
}

// under adds a condition to a text, if there is one.
func (w *writer) under(text string, condition api.Node) string {
	if condition.Kind == api.NdNone {
		return text
	}
	return text + " | " + w.text(condition)
}

// chosen reports whether a former has just the elements of a set for which a condition holds. A pattern that is the same as an expression is a plain one.
func chosen(n api.Node) bool {
	iters := n.Kids[1].Kids
	if len(iters) != 1 || iters[0].Kind != api.NdIn || n.Kids[2].Kind == api.NdNone {
		return false
	}
	return parse.Same(iters[0].Kids[0], n.Kids[0])
}

// quantified writes a quantifier.
func quantified(w *writer, n api.Node) string {
	words := [...]string{api.QtExists: "exists ", api.QtForall: "forall ", api.QtNotexists: "notexists "}
	iters := w.text(n.Kids[0])
	return w.under(words[n.N]+iters, n.Kids[1])
}

// choice writes an expression with conditions.
func choice(w *writer, n api.Node) string {
	text := "if "
	last := len(n.Kids) - 1
	for i := 0; i < last; i += 2 {
		if i > 0 {
			text += " elseif "
		}
		text += w.text(n.Kids[i])
		text += " then "
		text += w.text(n.Kids[i+1])
	}
	return text + " else " + w.text(n.Kids[last]) + " end"
}

// change writes an assignment that begins with an operation.
func change(w *writer, n api.Node) string {
	return between(" "+foldSign(n.N)+" := ")(w, n)
}

// taking writes that an element is taken.
func taking(w *writer, n api.Node) string {
	words := [...]string{api.FrArb: " from ", api.FrFirst: " fromb ", api.FrLast: " frome "}
	return between(words[n.N])(w, n)
}

// returned writes the return from a procedure.
func returned(w *writer, n api.Node) string {
	if len(n.Kids) == 0 {
		return "return"
	}
	return "return " + w.text(n.Kids[0])
}

// constant writes the declaration of a constant.
func constant(w *writer, n api.Node) string { return "const " + n.Text + " = " + w.text(n.Kids[0]) }

// param writes a parameter.
func param(_ *writer, n api.Node) string {
	modes := [...]string{api.MdRd: "", api.MdWr: "wr ", api.MdRw: "rw "}
	return modes[n.N] + n.Text
}
