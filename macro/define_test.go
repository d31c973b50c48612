package macro_test

import (
	"math/rand"
	"slices"
	"testing"

	"zermelo/api"
	"zermelo/macro"
)

// holdSplit holds Split against the model.
func holdSplit(t *testing.T, l []api.Token) {
	t.Helper()
	defs, rest, at, e := macro.Split(l)
	wantDefs, wantRest, wantAt, want := splitModel(l)
	if !sameMacros(defs, wantDefs) || !slices.Equal(rest, wantRest) || at != wantAt || e != want {
		t.Errorf("Split of %s: %s and %s, error %d at %d, want %s and %s, %d at %d", text(l), told(defs), text(rest), e, at, told(wantDefs), text(wantRest), want, wantAt)
	}
}

// P7.2: what Split returns, case by case.
func TestSplit(t *testing.T) {
	for _, c := range []struct {
		src, rest string
		defs      []api.Macro
	}{
		{"", "", nil},
		{"a ; b", "a ; b", nil},
		{"macro m ; endm ;", "", []api.Macro{{Name: "m"}}},
		{"macro swap ( x , y ; t ) ; t := x ; x := y ; y := t ; endm ;", "", []api.Macro{swap()}},
		{"a ; macro m ( x ) ; x x endm ; b macro n ( ; t , u ) ; t endm ; ;", "a ; b ;", []api.Macro{def("m ( x )", "x x"), def("n ( ; t , u )", "t")}},
		{"macro m ; ( , ; ) ] endm ; include \"x\" ;", "include x ;", []api.Macro{def("m", "( , ; ) ]")}},
		{"macro m ( m ) ; m endm ;", "", []api.Macro{def("m ( m )", "m")}},
		{"end macro a ; b endm ; a macro b ; a endm ; b", "end a b", []api.Macro{def("a", "b"), def("b", "a")}},
	} {
		l := toks(c.src)
		defs, rest, at, e := macro.Split(l)
		for i := range defs {
			defs[i].Body = bare(defs[i].Body)
		}
		for i := range c.defs {
			c.defs[i].Body = bare(c.defs[i].Body)
		}
		if !sameMacros(defs, c.defs) || text(rest) != c.rest || at != 0 || e != api.OK {
			t.Errorf("Split of %s: %s and %s, error %d at %d", c.src, told(defs), text(rest), e, at)
		}
		holdSplit(t, l)
	}
}

// P7.2: where definitions are not as they are written, and errors of Check.
func TestErrorsOfSplit(t *testing.T) {
	for _, c := range []struct {
		src string
		at  int
		e   api.Errno
	}{
		{"macro", 1, api.ErrMacro}, {"a macro", 2, api.ErrMacro}, {"macro m", 2, api.ErrMacro}, {"macro m (", 3, api.ErrMacro}, {"macro m ( x", 4, api.ErrMacro}, {"macro m ( x ,", 5, api.ErrMacro}, {"macro m ( x ;", 5, api.ErrMacro}, {"macro m ( x ; t", 6, api.ErrMacro}, {"macro m ( x )", 5, api.ErrMacro}, {"macro m ( x ) ;", 6, api.ErrMacro}, {"macro m ; a ; endm", 6, api.ErrMacro},
		{"macro if ; endm ;", 1, api.ErrMacro}, {"macro 1 ; endm ;", 1, api.ErrMacro}, {"macro \"m\" ; endm ;", 1, api.ErrMacro}, {"macro ; endm ;", 1, api.ErrMacro}, {"macro m a ; endm ;", 2, api.ErrMacro}, {"macro m [ x ] ; endm ;", 2, api.ErrMacro},
		{"macro m ( ) ; endm ;", 3, api.ErrMacro}, {"macro m ( ; ) ; endm ;", 4, api.ErrMacro}, {"macro m ( x ; ) ; endm ;", 5, api.ErrMacro}, {"macro m ( , x ) ; endm ;", 3, api.ErrMacro}, {"macro m ( x , ) ; endm ;", 5, api.ErrMacro}, {"macro m ( x y ) ; endm ;", 4, api.ErrMacro}, {"macro m ( x ; t ; u ) ; endm ;", 6, api.ErrMacro}, {"macro m ( x ] ; endm ;", 4, api.ErrMacro}, {"macro m ( 1 ) ; endm ;", 3, api.ErrMacro}, {"macro m ( x ) a endm ;", 5, api.ErrMacro},
		{"macro m ; macro k ; endm ; endm ;", 3, api.ErrMacro}, {"macro m ; a endm a", 5, api.ErrMacro}, {"macro m ; endm endm ;", 4, api.ErrMacro}, {"macro m endm ;", 2, api.ErrMacro},
		{"endm ;", 0, api.ErrMacro}, {"a ; endm ;", 2, api.ErrMacro}, {"macro m ; endm ; endm ;", 5, api.ErrMacro}, {"endm macro", 0, api.ErrMacro},
		{"macro m ; a ; endm ; macro m ; b ; endm ;", 7, api.ErrTwice}, {"a ; macro m ( x , x ) ; endm ;", 2, api.ErrMacro}, {"macro m ; include \"x\" ; endm ;", 0, api.ErrMacro}, {"a macro m ; t#1 endm ;", 1, api.ErrMacro}, {"a macro t#1 ; endm ;", 1, api.ErrMacro}, {"a macro m ( ; t#1 ) ; endm ;", 1, api.ErrMacro},
		{"a macro m ( a , b , c , d , e , f , g , h , i ) ; endm ;", 1, api.ErrMacro}, {"macro m ( x , x ) ; endm ; endm", 10, api.ErrMacro}, {"macro m ; endm ; macro m ; endm ; macro n ;", 13, api.ErrMacro}, {"macro m ( x , x ) ; endm ; macro m ; endm ; macro m ; endm ;", 0, api.ErrMacro},
	} {
		defs, rest, at, e := macro.Split(toks(c.src))
		if at != c.at || e != c.e || len(defs)+len(rest) > 0 {
			t.Errorf("Split of %s: error %d at %d, want %d at %d; %s and %s", c.src, e, at, c.e, c.at, told(defs), text(rest))
		}
		holdSplit(t, toks(c.src))
	}
}

// P7.2: the limits.
func TestLimitsOfSplit(t *testing.T) {
	var all []api.Token
	for _, m := range numbered(101) {
		l, _ := macro.Write(m)
		all = append(all, l...)
	}
	large, _ := macro.Write(with("m", many(sign(";"), 5995)...))
	for i, c := range []struct {
		l    []api.Token
		defs int
		at   int
		e    api.Errno
	}{
		{all[:500], 100, 0, api.OK}, {append([]api.Token{name("x")}, all...), 0, 0, api.ErrLimit}, {append(slices.Clone(all), key("endm")), 0, 505, api.ErrMacro},
		{large, 1, 0, api.OK}, {append(slices.Clone(large), name("x")), 0, 0, api.ErrLimit}, {many(key("endm"), 6001), 0, 0, api.ErrLimit}, {many(name("x"), 6000), 0, 0, api.OK},
	} {
		defs, rest, at, e := macro.Split(c.l)
		if len(defs) != c.defs || at != c.at || e != c.e || e != api.OK && len(rest) > 0 {
			t.Errorf("%d: %d macros, error %d at %d, want %d, %d at %d", i, len(defs), e, at, c.defs, c.e, c.at)
		}
	}
}

// P7.2: all short lists of what definitions consist of, and definitions in which one token is another one, or goes, or comes.
func TestShortSplits(t *testing.T) {
	some := []api.Token{key("macro"), key("endm"), name("m"), sign("("), sign(")"), sign(";"), sign(",")}
	lists(some, 5, func(l []api.Token) { holdSplit(t, l) })
	for _, src := range []string{"macro m ( x , y ; t , u ) ; t x endm ; m", "a macro m ; endm ; macro n ( ; t ) ; t endm ;", "macro m ( x ) ; x ; endm ; x endm"} {
		l := toks(src)
		for at := range l {
			for _, x := range append(some, name("x"), name("n"), key("if"), str("m"), sign("["), name("t#1"), key("include")) {
				holdSplit(t, slices.Concat(l[:at], []api.Token{x}, l[at+1:]))
				holdSplit(t, slices.Concat(l[:at], []api.Token{x}, l[at:]))
			}
			holdSplit(t, slices.Concat(l[:at], l[at+1:]))
			holdSplit(t, l[:at])
		}
	}
}

// P7.2: what Write returns.
func TestWrite(t *testing.T) {
	for _, c := range []struct {
		m    api.Macro
		want string
	}{
		{swap(), "macro swap ( x , y ; t ) ; t := x ; x := y ; y := t ; endm ;"},
		{api.Macro{Name: "m"}, "macro m ; endm ;"},
		{def("m ( ; t )", ""), "macro m ( ; t ) ; endm ;"},
		{def("m ( x )", "x ; endmm"), "macro m ( x ) ; x ; endmm endm ;"},
		{def("m ( x , y , z ; t , u )", ")"), "macro m ( x , y , z ; t , u ) ; ) endm ;"},
	} {
		l, e := macro.Write(c.m)
		if text(l) != c.want || e != api.OK || !slices.Equal(l, bare(l)) {
			t.Errorf("Write of %s: %v, error %d, want %s", told([]api.Macro{c.m}), l, e, c.want)
		}
		if want := bare(toks(c.want)); !slices.Equal(l, want) {
			t.Errorf("Write of %s: other Kinds: %v", told([]api.Macro{c.m}), l)
		}
	}
	for i, c := range []struct {
		m api.Macro
		e api.Errno
	}{
		{def("if", ""), api.ErrMacro}, {def("m ( x , x )", ""), api.ErrMacro}, {with("m", key("endm")), api.ErrMacro}, {with("if", many(name("x"), 7000)...), api.ErrMacro},
		{with("m", many(name("x"), 5995)...), api.OK}, {with("m", many(name("x"), 5996)...), api.ErrLimit}, {with("m", many(name("x"), 6001)...), api.ErrLimit}, {api.Macro{Name: "m", Params: []string{"x"}, Body: many(name("x"), 5992)}, api.OK}, {api.Macro{Name: "m", Params: []string{"x"}, Body: many(name("x"), 5993)}, api.ErrLimit},
	} {
		if l, e := macro.Write(c.m); e != c.e || e != api.OK && len(l) > 0 || e == api.OK && len(l) != 6000 {
			t.Errorf("%d: error %d, want %d; %d tokens", i, e, c.e, len(l))
		}
	}
}

// P7.14: Split of Write, and Write of Split.
func TestDefinitions(t *testing.T) {
	r := rand.New(rand.NewSource(73))
	for range 1000 {
		g := newGenerator(r, true)
		rest := g.list(g.Intn(8), 0, nil)
		var all []api.Token
		for _, m := range g.defs {
			l, e := macro.Write(m)
			if e != api.OK {
				t.Fatalf("Write of %s: error %d", told([]api.Macro{m}), e)
			}
			all = append(all, l...)
		}
		all = append(all, rest...)
		defs, back, at, e := macro.Split(all)
		want := cloned(g.defs)
		for i := range want {
			want[i].Body = bare(want[i].Body)
		}
		if !sameMacros(defs, want) || !slices.Equal(back, rest) || at != 0 || e != api.OK {
			t.Errorf("Split of Write of %s, with %s: %s and %s, error %d at %d", told(want), text(rest), told(defs), text(back), e, at)
		}
		var again []api.Token
		for _, m := range defs {
			l, _ := macro.Write(m)
			again = append(again, l...)
		}
		if !slices.Equal(bare(append(again, back...)), bare(all)) {
			t.Errorf("Write of Split of %s: %s", text(all), text(again))
		}
	}
}
