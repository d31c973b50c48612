package macro_test

import (
	"slices"
	"testing"

	"zermelo/api"
	"zermelo/macro"
)

// spoil changes all elements of a list, and what its memory has behind them.
func spoil[T any](l []T, bad T) {
	l = l[:cap(l)]
	for i := range l {
		l[i] = bad
	}
}

// spoilTokens and spoilMacro change all memory of tokens, and of a macro.
func spoilTokens(l []api.Token) { spoil(l, api.Token{Kind: -1, Text: "changed", At: -1}) }

func spoilMacro(m api.Macro) {
	spoil(m.Params, "changed")
	spoil(m.Fresh, "changed")
	spoilTokens(m.Body)
}

// G6: what Split returns shares no memory with its argument, nor among itself.
func TestMemoryOfSplit(t *testing.T) {
	src := "a ; macro m ( x , y ; t , u ) ; t x endm ; b macro n ( z ) ; z z endm ; c d"
	l := toks(src)
	want, wantRest, _, _ := splitModel(toks(src))
	defs, rest, _, _ := macro.Split(l)
	spoilTokens(l)
	if !sameMacros(defs, want) || !slices.Equal(rest, wantRest) {
		t.Errorf("the result changes with the argument")
	}
	spoilTokens(rest)
	spoilMacro(defs[0])
	if !sameMacro(defs[1], want[1]) {
		t.Errorf("the macros share memory: %s", told(defs))
	}
	l = toks(src)
	defs, rest, _, _ = macro.Split(l)
	spoilMacro(defs[0])
	spoilMacro(defs[1])
	if !slices.Equal(rest, wantRest) || !slices.Equal(l, toks(src)) {
		t.Errorf("the macros share memory with the rest, or with the argument")
	}
	spoilTokens(rest)
	if !slices.Equal(l, toks(src)) {
		t.Errorf("the rest shares memory with the argument")
	}
}

// G6: what Args and Put return.
func TestMemoryOfParts(t *testing.T) {
	src := "( a b , c , ( d ) )"
	l := toks(src)
	want, _, _ := argsModel(toks(src), 0)
	for i := range want {
		args, _, _ := macro.Args(l, 0)
		spoilTokens(args[i])
		for j := range want {
			if j != i && !slices.Equal(args[j], want[j]) {
				t.Errorf("the arguments %d and %d share memory", i, j)
			}
		}
		if !slices.Equal(l, toks(src)) {
			t.Fatalf("an argument shares memory with the list")
		}
	}
	args := [][]api.Token{toks("a b"), toks("c")}
	m := swap()
	put, _ := macro.Put(m, args, 1)
	spoilTokens(put)
	if !sameMacro(m, swap()) || !sameArgs(args, [][]api.Token{toks("a b"), toks("c")}) {
		t.Errorf("Put shares memory with its arguments")
	}
	for _, m := range []api.Macro{def("id ( x )", "x"), def("plain ( x )", "a b"), def("none ( x )", "")} {
		before := cloned([]api.Macro{m})[0]
		put, _ = macro.Put(m, args[:1], 1)
		spoilTokens(put)
		if !sameMacro(m, before) || !slices.Equal(args[0], toks("a b")) {
			t.Errorf("Put shares memory with its arguments")
		}
	}
	written, _ := macro.Write(m)
	spoilTokens(written)
	if !sameMacro(m, swap()) {
		t.Errorf("Write shares memory with its argument")
	}
}

// G6: what Expand, Chain and Circles return.
func TestMemoryOfExpand(t *testing.T) {
	given := func() []api.Macro { return []api.Macro{swap(), def("one", "1"), def("two", "one , one")} }
	defs, src := given(), "x swap ( two , b ) ; y"
	l := toks(src)
	want, _, _ := expandModel(defs, toks(src))
	x := expand(t, defs, l)
	if !sameMacros(defs, given()) || !slices.Equal(l, toks(src)) {
		t.Errorf("Expand changes its arguments")
	}
	numbers, _ := macro.Chain(x, 1)
	spoil(numbers, -1)
	if !sameExpanded(x, want) {
		t.Errorf("Chain shares memory with its argument")
	}
	for _, m := range defs {
		spoilMacro(m)
	}
	spoilTokens(l)
	if !sameExpanded(x, want) {
		t.Errorf("the result of Expand changes with its arguments")
	}
	spoilTokens(x.Tokens)
	if !slices.Equal(x.Origins, want.Origins) || !slices.Equal(x.Opened, want.Opened) {
		t.Errorf("the lists of a result share memory")
	}
	l = toks("x y")
	x = expand(t, given(), l)
	spoilTokens(x.Tokens)
	if !slices.Equal(l, toks("x y")) {
		t.Errorf("the result of Expand shares memory with its argument")
	}
	found, _ := macro.Circles(given())
	spoil(found, true)
	if found, _ = macro.Circles(given()); slices.Contains(found, true) {
		t.Errorf("Circles keeps its result")
	}
}

// G6: what Clean and Include return.
func TestMemoryOfClean(t *testing.T) {
	for _, src := range []string{"t#1 a", "a b"} {
		l := toks(src)
		c, _ := macro.Clean(l)
		spoilTokens(c)
		if !slices.Equal(l, toks(src)) {
			t.Errorf("Clean shares memory with its argument")
		}
	}
	texts := []api.Text{{Name: "x", Src: "a b c"}, {Name: "y", Src: `include "x"; include "x";`}}
	first := include(`include "y"; include "x";`, texts)
	again := include(`include "y"; include "x";`, texts)
	spoilTokens(first.l)
	if text(again.l) != "a b c a b c a b c" || texts[0] != (api.Text{Name: "x", Src: "a b c"}) {
		t.Errorf("Include shares memory: %s", text(again.l))
	}
}
