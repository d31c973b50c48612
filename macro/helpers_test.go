package macro_test

import (
	"fmt"
	"math/rand"
	"slices"
	"strconv"
	"strings"
	"testing"

	"zermelo/api"
	"zermelo/lex"
	"zermelo/macro"
)

// toks returns tokens that are written with blanks between them, as the chapter writes them: a word with # is a fresh name.
func toks(src string) []api.Token {
	var l []api.Token
	for _, word := range strings.Fields(src) {
		if strings.Contains(word[1:], "#") {
			l = append(l, name(word))
			continue
		}
		found, at, e := lex.Scan(word)
		if e != api.OK {
			panic(word + " has an error at " + strconv.Itoa(at))
		}
		l = append(l, found...)
	}
	for i := range l {
		l[i].At, l[i].To, l[i].Line, l[i].Col = 10*i, 10*i+len(l[i].Text), 1+i/8, 1+i%8
	}
	return l
}

// name, sign, key and str return tokens with Kind and Text alone.
func name(text string) api.Token { return api.Token{Kind: api.TkName, Text: text} }
func sign(text string) api.Token { return api.Token{Kind: api.TkSign, Text: text} }
func key(text string) api.Token  { return api.Token{Kind: api.TkKey, Text: text} }
func str(text string) api.Token  { return api.Token{Kind: api.TkStr, Text: text} }

// def returns a macro: its head is written as in the chapter, m ( x , y ; t ).
func def(head, body string) api.Macro {
	m := api.Macro{Body: toks(body)}
	m.Name, head, _ = strings.Cut(head, " ")
	params, fresh, _ := strings.Cut(strings.Trim(head, "( )"), ";")
	m.Params = strings.Fields(strings.ReplaceAll(params, ",", " "))
	m.Fresh = strings.Fields(strings.ReplaceAll(fresh, ",", " "))
	return m
}

// swap is the macro of the examples.
func swap() api.Macro { return def("swap ( x , y ; t )", "t := x ; x := y ; y := t ;") }

// text writes tokens as their texts, or where they begin.
func text(l []api.Token) string {
	var s []string
	for _, t := range l {
		s = append(s, t.Text)
	}
	all := strings.Join(s, " ")
	if len(all) > 300 {
		all = all[:280] + " .. (" + strconv.Itoa(len(l)) + ")"
	}
	return all
}

// told writes macros for messages.
func told(defs []api.Macro) string {
	var s []string
	for _, m := range defs {
		s = append(s, fmt.Sprintf("%s (%s; %s) %s", m.Name, strings.Join(m.Params, ", "), strings.Join(m.Fresh, ", "), text(m.Body)))
	}
	return strings.Join(s, " | ")
}

// many returns a token many times.
func many(t api.Token, n int) []api.Token { return slices.Repeat([]api.Token{t}, n) }

// bare returns tokens with Kind and Text alone.
func bare(l []api.Token) []api.Token {
	var all []api.Token
	for _, t := range l {
		all = append(all, api.Token{Kind: t.Kind, Text: t.Text})
	}
	return all
}

// sameMacro reports whether two macros are the same.
func sameMacro(a, b api.Macro) bool {
	return a.Name == b.Name && slices.Equal(a.Params, b.Params) && slices.Equal(a.Fresh, b.Fresh) && slices.Equal(a.Body, b.Body)
}

// sameMacros reports whether two lists of macros are the same.
func sameMacros(a, b []api.Macro) bool { return slices.EqualFunc(a, b, sameMacro) }

// sameExpanded reports whether two results of Expand are the same.
func sameExpanded(a, b api.Expanded) bool {
	return slices.Equal(a.Tokens, b.Tokens) && slices.Equal(a.Origins, b.Origins) && slices.Equal(a.Opened, b.Opened)
}

// cloned returns macros that share no memory with others.
func cloned(defs []api.Macro) []api.Macro {
	var all []api.Macro
	for _, m := range defs {
		all = append(all, api.Macro{Name: m.Name, Params: slices.Clone(m.Params), Fresh: slices.Clone(m.Fresh), Body: slices.Clone(m.Body)})
	}
	return all
}

// one returns one of several things.
func one[T any](r *rand.Rand, l ...T) T { return l[r.Intn(len(l))] }

// lists calls take with all lists of so many tokens at most.
func lists(some []api.Token, most int, take func([]api.Token)) {
	buffer := make([]api.Token, 0, most)
	var extend func()
	extend = func() {
		take(slices.Clone(buffer))
		if len(buffer) == most {
			return
		}
		for _, t := range some {
			t.At = len(buffer)
			buffer = append(buffer, t)
			extend()
			buffer = buffer[:len(buffer)-1]
		}
	}
	extend()
}

// expand returns what Expand returns without an error.
func expand(t *testing.T, defs []api.Macro, l []api.Token) api.Expanded {
	t.Helper()
	x, at, e := macro.Expand(defs, l)
	if e != api.OK || at != 0 {
		t.Errorf("Expand of %s with %s: error %d at %d", text(l), told(defs), e, at)
	}
	return x
}

// generator makes macros and lists by chance.
type generator struct {
	*rand.Rand
	defs   []api.Macro
	inside int // how many uses the list stands in
}

// newGenerator returns a generator with macros; of circles it makes some, if it may.
func newGenerator(r *rand.Rand, circles bool) *generator {
	g := &generator{Rand: r}
	for i := range 1 + r.Intn(5) {
		m := api.Macro{Name: "m" + strconv.Itoa(i)}
		m.Params = slices.Clone([]string{"p", "q", "m1"}[:r.Intn(4)])
		m.Fresh = slices.Clone([]string{"t", "u"}[:r.Intn(3)])
		g.defs = append(g.defs, m)
	}
	for i := range g.defs {
		m := &g.defs[i]
		first := i + 1
		if circles && r.Intn(6) == 0 {
			first = 0
		}
		m.Body = g.list(r.Intn(9), first, append(slices.Clone(m.Params), m.Fresh...))
	}
	return g
}

// list returns tokens of so many parts, with uses of the macros from one on, and with some names.
func (g *generator) list(parts, first int, names []string) []api.Token {
	var l []api.Token
	for range parts {
		switch k := g.Intn(12); {
		case k < 4 && first < len(g.defs) && g.inside < 3:
			l = append(l, g.use(first, names)...)
		case k < 7 && len(names) > 0:
			l = append(l, name(one(g.Rand, names...)))
		case k < 8:
			l = append(l, one(g.Rand, sign("("), sign(")"), sign(","), sign("["), sign("}"), str("m0"), str("p"), key("if"), key("m1"), name("m4"), name("t")))
		default:
			l = append(l, one(g.Rand, name("x"), sign(";"), sign(":="), api.Token{Kind: api.TkInt, Text: "1"}))
		}
	}
	for i := range l {
		l[i].At, l[i].To, l[i].Line, l[i].Col = g.Intn(100), g.Intn(100), g.Intn(100), g.Intn(100)
	}
	return l
}

// use returns a use of a macro, in most cases with as many arguments as there are parameters.
func (g *generator) use(first int, names []string) []api.Token {
	m := g.defs[first+g.Intn(len(g.defs)-first)]
	l := []api.Token{name(m.Name)}
	if len(m.Params) == 0 || g.Intn(30) == 0 {
		return l
	}
	g.inside++
	defer func() { g.inside-- }()
	l = append(l, sign("("))
	for i := range m.Params {
		if i > 0 {
			l = append(l, sign(","))
		}
		if g.Intn(3) == 0 {
			l = append(l, sign("["), sign(","), name("x"), sign("]"))
		}
		l = append(l, g.list(g.Intn(3), first, names)...)
	}
	return append(l, sign(one(g.Rand, ")", ")", ")", ")", "]")))
}
