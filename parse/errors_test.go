package parse_test

import (
	"math/rand"
	"strings"
	"testing"

	"zermelo/api"
	"zermelo/parse"
)

// alphabet is all tokens that a grammar knows, and some that it does not.
func alphabet() []string {
	var l []string
	known := map[string]bool{}
	add := func(text string) {
		if !known[text] {
			known[text] = true
			l = append(l, text)
		}
	}
	for _, part := range strings.Fields(rules) {
		if strings.HasPrefix(part, "'") {
			add(strings.Trim(part, "'"))
		}
	}
	for class, words := range classes {
		if class != "FOLD" {
			for _, word := range strings.Fields(words) {
				add(word)
			}
		}
	}
	for _, other := range []string{".", "->", "@", "macro", "endm", "include"} {
		add(other)
	}
	return l
}

// walk holds the parser against the model behind each token of what it goes on to, and all tokens that can follow.
type walk struct {
	t    *testing.T
	list []api.Token
	all  []string // the tokens that are tried
}

// try holds a token behind the list against the model, and returns whether it can stand there.
func (w *walk) try(r *reader, text string) bool {
	l := append(w.list, token(text))
	_, at, e := parse.Tokens(l)
	can := r.can(text)
	if good := e == api.ErrSyntax && at == len(w.list); good == can {
		w.t.Fatalf("%s: %d, %d, but it can stand there: %v", written(l), at, e, can)
	}
	return can
}

// long reports whether a list within the tokens has too many elements, which the model does not count.
func (w *walk) long() bool {
	_, _, e := parse.Tokens(w.list)
	return e == api.ErrLimit
}

// hold holds the list itself against the model: it is whole, or ends too early.
func (w *walk) hold(r *reader) {
	_, at, e := parse.Tokens(w.list)
	want, there := api.ErrSyntax, len(w.list)
	if r.whole() {
		want, there = api.OK, 0
	}
	if at != there || e != want {
		w.t.Fatalf("%s: %d, %d, not %d, %d", written(w.list), at, e, there, want)
	}
}

// deeper goes on with all lists of so many further tokens.
func (w *walk) deeper(r reader, many int) {
	w.hold(&r)
	if many == 0 {
		return
	}
	for _, text := range w.all {
		if w.try(&r, text) {
			next, more := r.read(text)
			w.list = append(w.list, token(text))
			w.deeper(next, many-1)
			w.list = w.list[:len(w.list)-1]
			r.back(more)
		}
	}
}

// start returns a walk behind the tokens of a text, and the reader behind them.
func start(t *testing.T, g *grammar, text, all string) (*walk, reader) {
	w := &walk{t: t, all: strings.Fields(all)}
	r := reader{newModel(g), ""}
	for _, x := range strings.Fields(text) {
		if !r.can(x) {
			t.Fatal(text, x)
		}
		r, _ = r.read(x)
		w.list = append(w.list, token(x))
	}
	return w, r
}

// written writes tokens.
func written(l []api.Token) string {
	var s []string
	for _, x := range l {
		s = append(s, x.Text)
	}
	return strings.Join(s, " ")
}

// Errors: all short lists of tokens that are alike, behind different beginnings.
func TestAllShort(t *testing.T) {
	g := newGrammar()
	for _, c := range []struct {
		text, all string
		many      int
	}{
		{"", "program module x ; exports var end", 5},
		{"program x ;", "uses var const x , ; = - 1 true proc end", 4},
		{"module x ;", "exports uses var const x , ; proc ( end", 4},
		{"program x ; const x =", "1 2.5 \"a\" true false om - + ( x ; end", 3},
		{"program x ; proc x (", "rd wr rw x , ) ; end", 4},
		{"program x ; proc x ( ) ;", "var uses x ; end proc ( := stop", 4},
		{"program x ;", "x ( ) { } [ ] , ; := + - .. from frome 1", 3},
		{"program x ; x (", "x ( ) .. , ; := { }", 5},
		{"program x ; [", "x - [ ] , ( ) := from + ;", 4},
		{"program x ; read (", "x - [ ] , ( ) ; 1", 4},
		{"program x ; print (", "x .. , ( ) ; 1", 4},
		{"program x ; if", "x then elseif else end ; stop", 5},
		{"program x ; case", "x of when , : otherwise stop ; end", 5},
		{"program x ; for", "x in = s ( ) | do , end ; [ -", 4},
		{"program x ; x :=", "x + - * / ** ? = and ;", 5},
		{"program x ; x :=", "x - # not / = or impl ( )", 5},
		{"program x ; x :=", "exists in s | = x not ( ) + ?", 5},
		{"program x ; x := exists x in s |", "x = | + ( ) , exists in s", 5},
		{"program x ; x := {", "x in ( ) | [ ] } , : ..", 5},
		{"program x ; x := [", "x in ( ) | [ ] , : .. =", 5},
		{"program x ; x := { x : x =", "x ( ) { } [ ] , | 1 exists", 5},
		{"program x ; x := { ( [ x ] ) in x", "in | = } ) x", 5},
		{"program x ; x := if", "x then elseif else end ; (", 6},
	} {
		w, r := start(t, g, c.text, c.all)
		w.deeper(r, c.many)
	}
}

// Errors: every token that there is behind the lists of a walk by chance.
func TestByChance(t *testing.T) {
	g := newGrammar()
	all := alphabet()
	chance := rand.New(rand.NewSource(8))
	for range 15 {
		w, r := start(t, g, "", "")
		for range 40 {
			if w.long() {
				break
			}
			w.hold(&r)
			var can []string
			for _, text := range all {
				if w.try(&r, text) {
					can = append(can, text)
				}
			}
			if len(can) == 0 {
				t.Fatal(written(w.list))
			}
			text := can[chance.Intn(len(can))]
			r, _ = r.read(text)
			w.list = append(w.list, token(text))
		}
	}
}
