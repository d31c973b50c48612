package macro_test

import (
	"math"
	"math/rand"
	"slices"
	"strconv"
	"strings"
	"testing"

	"zermelo/api"
	"zermelo/macro"
)

// holdExpand holds Expand against the model.
func holdExpand(t *testing.T, defs []api.Macro, l []api.Token) api.Errno {
	t.Helper()
	x, at, e := macro.Expand(defs, l)
	want, wantAt, wantE := expandModel(defs, l)
	if !sameExpanded(x, want) || at != wantAt || e != wantE {
		t.Errorf("Expand of %s with %s: %s, error %d at %d, want %s, %d at %d", text(l), told(defs), text(x.Tokens), e, at, text(want.Tokens), wantE, wantAt)
	}
	return e
}

// P7.4: Expand, case by case.
func TestExpand(t *testing.T) {
	defs := []api.Macro{swap(), def("one", "1"), def("two", "one , one"), def("ring", "ring"), def("none", ""), def("f ( x )", "g ( x , f2 )"), def("g ( x , y ; t )", "{ y t x }"), def("call", "f"), def("f2", "f ( 2"), def("id ( x )", "x"), def("ap ( h , x )", "h ( x )"), def("sets ( ; t , u )", "t := u ; two")}
	for _, c := range []struct {
		src, want string
		at        int
		e         api.Errno
	}{
		{"swap ( a , b [ 1 ] )", "t#1 := a ; a := b [ 1 ] ; b [ 1 ] := t#1 ;", 0, api.OK},
		{"swap ( a , b ) swap ( c , d )", "t#1 := a ; a := b ; b := t#1 ; t#2 := c ; c := d ; d := t#2 ;", 0, api.OK},
		{"swap ( one , two )", "t#1 := 1 ; 1 := 1 , 1 ; 1 , 1 := t#1 ;", 0, api.OK},
		{"two", "1 , 1", 0, api.OK}, {"x", "x", 0, api.OK}, {"", "", 0, api.OK}, {"none none x none", "x", 0, api.OK}, {"one ( a )", "1 ( a )", 0, api.OK},
		// Arguments may come from elsewhere, and hold uses of any kind.
		{"call ( none ) )", "{ { { f ( 2 t#7 2 } t#5 } t#3 }", 0, api.ErrDeep}, {"call", "", 0, api.ErrActuals}, {"x call ]", "", 1, api.ErrActuals}, {"id ( f2 ) )", "", 2, api.ErrDeep},
		{"id ( swap ) ( a , b )", "t#2 := a ; a := b ; b := t#2 ;", 0, api.OK}, {"id ( swap ( a , ) b )", "t#2 := a ; a := ; := t#2 ; b", 0, api.OK}, {"ap ( id , id ( one ) )", "1", 0, api.OK}, {"ap ( one , two )", "1 ( 1 , 1 )", 0, api.OK}, {"ap ( ap , id , x )", "", 0, api.ErrActuals}, {"id ( id ( id ) ( x ) )", "x", 0, api.OK}, {"id ( ( id ) ) ( x )", "", 3, api.ErrActuals}, {"g ( sets , sets )", "{ t#2 := u#2 ; 1 , 1 t#1 t#6 := u#6 ; 1 , 1 }", 0, api.OK},
		{"g ( ( , ) , [ , ] )", "{ [ , ] t#1 ( , ) }", 0, api.OK}, {"g ( a , b ] c", "{ b t#1 a } c", 0, api.OK}, {"g ( , )", "{ t#1 }", 0, api.OK}, {"id ( )", "", 0, api.OK},
		// Errors.
		{"swap ( a )", "", 0, api.ErrActuals}, {"swap", "", 0, api.ErrActuals}, {"b swap", "", 1, api.ErrActuals}, {"one swap ( a , b", "", 1, api.ErrActuals}, {"swap ( a , b , c )", "", 0, api.ErrActuals}, {"swap ( )", "", 0, api.ErrActuals}, {"swap [ a , b ]", "", 0, api.ErrActuals}, {"one swap a ( b , c )", "", 1, api.ErrActuals}, {"id ( a , b )", "", 0, api.ErrActuals},
		{"x ring", "", 1, api.ErrDeep}, {"one one ring swap", "", 2, api.ErrDeep}, {"swap ring", "", 0, api.ErrActuals}, {"swap ( ring , x ) swap", "", 2, api.ErrDeep}, {"swap ( a , b ) id ( ring ) ring", "", 8, api.ErrDeep}, {"f ( 1 )", "", 0, api.ErrDeep},
	} {
		x, at, e := macro.Expand(defs, toks(c.src))
		want := c.want
		if c.e != api.OK {
			want = ""
		}
		if text(x.Tokens) != want || at != c.at || e != c.e {
			t.Errorf("Expand of %s: %s, error %d at %d, want %s, %d at %d", c.src, text(x.Tokens), e, at, want, c.e, c.at)
		}
		holdExpand(t, defs, toks(c.src))
	}
}

// P7.4: the example of origins; and what they are if a use comes from several places.
func TestOrigins(t *testing.T) {
	defs := []api.Macro{swap(), def("one", "1"), def("two", "one , one"), def("ap ( h )", "h ( b , 3 )")}
	x := expand(t, defs, toks("swap ( a , b [ 1 ] )"))
	if len(x.Opened) != 1 || x.Opened[0] != (api.Opened{Macro: 0, Use: api.Origin{Macro: -1}}) || x.Origins[0] != (api.Origin{Macro: 0, At: 0, By: 1}) || x.Origins[2] != (api.Origin{Macro: -1, At: 2}) || x.Tokens[2].Text != "a" {
		t.Errorf("%v, %v", x.Opened, x.Origins)
	}
	x = expand(t, defs, toks("a two"))
	if want := []api.Opened{{Macro: 2, Use: api.Origin{Macro: -1, At: 1}}, {Macro: 1, Use: api.Origin{Macro: 2, At: 0, By: 1}}, {Macro: 1, Use: api.Origin{Macro: 2, At: 2, By: 1}}}; !slices.Equal(x.Opened, want) {
		t.Errorf("%v, want %v", x.Opened, want)
	}
	if want := []api.Origin{{Macro: -1}, {Macro: 1, By: 2}, {Macro: 2, At: 1, By: 1}, {Macro: 1, By: 3}}; !slices.Equal(x.Origins, want) {
		t.Errorf("%v, want %v", x.Origins, want)
	}
	// The name of the second use comes from the list, and its arguments from the Body of the first one.
	x = expand(t, defs, toks("c ap ( swap )"))
	if want := []api.Opened{{Macro: 3, Use: api.Origin{Macro: -1, At: 1}}, {Macro: 0, Use: api.Origin{Macro: -1, At: 3}}}; !slices.Equal(x.Opened, want) {
		t.Errorf("%v, want %v", x.Opened, want)
	}
	if text(x.Tokens) != "c t#2 := b ; b := 3 ; 3 := t#2 ;" || x.Origins[3] != (api.Origin{Macro: 3, At: 2, By: 1}) || x.Origins[4] != (api.Origin{Macro: 0, At: 3, By: 2}) {
		t.Errorf("%s, %v", text(x.Tokens), x.Origins)
	}
}

// P7.4: tokens that are put keep all their fields, but the Text of fresh names.
func TestFieldsOfExpanded(t *testing.T) {
	m := api.Macro{Name: "m", Params: []string{"x"}, Fresh: []string{"t"}, Body: []api.Token{{Kind: api.TkName, Text: "t", At: 5, To: 6, Line: 7, Col: 8}, {Kind: 9, Text: "\x00", At: -5}, {Kind: api.TkName, Text: "x", Line: 100}, {Kind: api.TkStr, Text: "x", Col: 3}}}
	l := []api.Token{{Kind: api.TkName, Text: "m", At: 70, Line: 3}, sign("("), {Kind: api.TkStr, Text: "m", At: 80, To: 1, Line: 2, Col: -3}, sign(")"), {Kind: api.TkName, Text: "t#1", At: 9}}
	x := expand(t, []api.Macro{m}, l)
	want := []api.Token{{Kind: api.TkName, Text: "t#1", At: 5, To: 6, Line: 7, Col: 8}, m.Body[1], l[2], m.Body[3], l[4]}
	if !slices.Equal(x.Tokens, want) || len(x.Origins) != 5 {
		t.Errorf("%v, want %v", x.Tokens, want)
	}
}

// P7.4: all short lists with some macros.
func TestShortExpansions(t *testing.T) {
	defs := []api.Macro{def("f ( p )", "p g p ( h"), def("g", "1"), def("h ( p , q ; t )", "t q ( p )"), def("k", "f")}
	lists([]api.Token{name("f"), name("h"), name("k"), sign("("), sign(")"), sign(",")}, 5, func(l []api.Token) { holdExpand(t, defs, l) })
	defs = []api.Macro{def("f ( p )", "p ( p )"), def("e", ""), def("b", "( e"), def("c", ") ;")}
	lists([]api.Token{name("f"), name("e"), name("b"), name("c"), sign("("), sign(")")}, 5, func(l []api.Token) {
		if _, _, e := macro.Expand(defs, l); e != api.ErrLimit { // the model needs too long for those
			holdExpand(t, defs, l)
		}
	})
}

// P7.4: lists by chance.
func TestRandomExpansions(t *testing.T) {
	r := rand.New(rand.NewSource(75))
	ends := map[api.Errno]int{}
	for range 4000 {
		g := newGenerator(r, true)
		l := g.list(r.Intn(8), 0, []string{"t", "t#1", "p"})
		if _, _, e := macro.Expand(g.defs, l); e != api.ErrLimit {
			ends[holdExpand(t, g.defs, l)]++
		}
	}
	if ends[api.OK] < 1000 || ends[api.ErrActuals] < 200 || ends[api.ErrDeep] < 100 {
		t.Errorf("the ends of the cases: %v", ends)
	}
}

// chained returns macros each of which uses the next one, in the middle of its Body.
func chained(n int) []api.Macro {
	defs := numbered(n)
	for i := range defs {
		defs[i].Body = toks("( m" + strconv.Itoa(i+1) + " )")
	}
	return defs
}

// P7.4: how deep expansions can be; tokens of arguments are as deep as they were.
func TestDepth(t *testing.T) {
	for n := 18; n <= 22; n++ {
		x, at, e := macro.Expand(chained(n), toks("x y m0"))
		if n <= 20 && (e != api.OK || len(x.Opened) != n || at != 0) || n > 20 && (e != api.ErrDeep || at != 2) {
			t.Errorf("%d macros: error %d at %d", n, e, at)
		}
	}
	nested := strings.Repeat("id ( ", 100) + "m0" + strings.Repeat(" )", 100)
	defs := append(chained(20), def("id ( x )", "x"))
	if x := expand(t, defs, toks(nested)); len(x.Opened) != 120 {
		t.Errorf("%d expansions", len(x.Opened))
	}
	if _, at, e := macro.Expand(append(chained(21), def("id ( x )", "x")), toks(nested)); e != api.ErrDeep || at != 200 {
		t.Errorf("error %d at %d, want ErrDeep at 200", e, at)
	}
	// A use that is too deep is an error whatever follows it.
	deep := append(chained(20), def("m20 ( x )", "x"))
	if _, at, e := macro.Expand(deep, toks("m0")); e != api.ErrDeep || at != 0 {
		t.Errorf("error %d at %d, want ErrDeep", e, at)
	}
	holdExpand(t, deep, toks("; m1 ( a )"))
	if _, at, e := macro.Expand(deep, toks("; m1 ( a )")); e != api.ErrActuals || at != 1 {
		t.Errorf("error %d at %d, want ErrActuals at 1", e, at)
	}
}

// P7.4: the limits of expansions and of tokens.
func TestLimitsOfExpand(t *testing.T) {
	e, two, three := def("e", ""), def("two", "e e"), def("three", "e e e")
	x, pair, f, keep := def("x", "1"), def("pair", "1 1"), def("f ( p )", "p p"), def("keep ( p , q )", "q ( q , q )")
	again := def("again ( h )", "h ( h )")
	long := func(n int, l ...api.Token) []api.Token { return append(many(sign(";"), n), l...) }
	use := func(n int) []api.Token {
		return append([]api.Token{name("f"), sign("(")}, append(many(sign(";"), n), sign(")"))...)
	}
	for i, c := range []struct {
		defs   []api.Macro
		l      []api.Token
		at     int
		e      api.Errno
		opened int
	}{
		// How many expansions there are.
		{[]api.Macro{e}, many(name("e"), 6000), 0, api.OK, 6000}, {[]api.Macro{e, two}, many(name("two"), 2000), 0, api.OK, 6000}, {[]api.Macro{e, two}, append(many(name("two"), 2000), name("e")), 2000, api.ErrLimit, 0}, {[]api.Macro{e, two}, append(many(name("two"), 2001), name("e")), 2000, api.ErrLimit, 0}, {[]api.Macro{e, two}, many(name("two"), 3000), 2000, api.ErrLimit, 0},
		{[]api.Macro{e, three}, append(many(name("three"), 1500), sign(";")), 0, api.OK, 6000}, {[]api.Macro{e, three}, append(many(name("e"), 1), many(name("three"), 1500)...), 1500, api.ErrLimit, 0}, {[]api.Macro{e, two, f}, append(many(name("two"), 2000), name("f")), 2000, api.ErrActuals, 0},
		{[]api.Macro{again}, toks("x again ( again )"), 3, api.ErrLimit, 0}, {[]api.Macro{again, x}, toks("x x ; again ( again )"), 5, api.ErrLimit, 0}, {[]api.Macro{keep}, toks("keep ( , keep )"), 3, api.ErrLimit, 0},
		// How many tokens the list has.
		{nil, long(6000), 0, api.OK, 0}, {nil, long(6001), 0, api.ErrLimit, 0}, {[]api.Macro{def("if", "")}, long(6001), 0, api.ErrLimit, 0},
		{[]api.Macro{x}, long(5999, name("x")), 0, api.OK, 1}, {[]api.Macro{pair}, long(5999, name("pair")), 5999, api.ErrLimit, 0}, {[]api.Macro{pair}, long(5998, name("pair")), 0, api.OK, 1}, {[]api.Macro{pair}, append(many(name("pair"), 3000), sign(";")), 2999, api.ErrLimit, 0}, {[]api.Macro{pair}, many(name("pair"), 3000), 0, api.OK, 3000},
		{[]api.Macro{e, two}, append([]api.Token{name("two")}, long(5999)...), 0, api.ErrLimit, 0}, {[]api.Macro{e, two}, append([]api.Token{name("e"), name("two")}, long(5998)...), 0, api.OK, 4}, {[]api.Macro{e, two}, append([]api.Token{name("two")}, long(5998)...), 0, api.OK, 3},
		{[]api.Macro{f}, use(3000), 0, api.OK, 1}, {[]api.Macro{f}, use(3001), 0, api.ErrLimit, 0}, {[]api.Macro{f}, append(long(1), use(3000)...), 1, api.ErrLimit, 0}, {[]api.Macro{f}, use(5997), 0, api.ErrLimit, 0}, {[]api.Macro{f, x}, append([]api.Token{name("x")}, use(2999)...), 0, api.OK, 2},
		{[]api.Macro{f}, append(use(2000), use(0)...), 0, api.OK, 2}, {[]api.Macro{f}, append(use(1), use(2998)...), 0, api.OK, 2}, {[]api.Macro{f}, append(use(1), use(3000)...), 4, api.ErrLimit, 0},
		// Errors of Check come ahead of those of uses.
		{[]api.Macro{f, def("if", "")}, toks("f"), 0, api.ErrMacro, 0}, {[]api.Macro{f, e, f}, toks("f"), 0, api.ErrTwice, 0}, {append(numbered(100), f), toks("f"), 0, api.ErrLimit, 0}, {[]api.Macro{f, with("l", many(sign(";"), 5999)...)}, toks("f"), 0, api.ErrLimit, 0}, {[]api.Macro{f, with("l", many(sign(";"), 5998)...)}, toks("x f"), 1, api.ErrActuals, 0},
	} {
		got, at, e := macro.Expand(c.defs, c.l)
		if at != c.at || e != c.e || len(got.Opened) != c.opened || e != api.OK && len(got.Tokens)+len(got.Origins) > 0 {
			t.Errorf("%d: Expand of %s: error %d at %d, want %d at %d; %d expansions, want %d", i, text(c.l), e, at, c.e, c.at, len(got.Opened), c.opened)
		}
	}
}

// P7.4: what is far too large, or would never end, ends soon.
func TestEndlessExpansions(t *testing.T) {
	long := strings.Repeat("a ", 5900)
	for i, c := range []struct {
		m   api.Macro
		src string
	}{
		{def("f ( g , x )", "g ( g , x )"), "f ( f , " + long + ")"},
		{def("f ( g , e )", "g ( g , e ) "+strings.Repeat("e ", 5900)), "f ( f , )"},
		{def("f ( g , e )", strings.Repeat("e ", 5900)+" g ( g , e )"), "f ( f , )"},
		{def("f ( g , x )", strings.Repeat("x ", 5900)+" g ( g , x )"), "f ( f , " + long[:6000] + ")"},
		{def("f ( g )", "g ( g ) ;"), "f ( f )"},
		{def("f ( g )", "; g ( g )"), "f ( f )"},
	} {
		if _, _, e := macro.Expand([]api.Macro{c.m}, toks(c.src)); e != api.ErrLimit {
			t.Errorf("%d: error %d", i, e)
		}
	}
}

// P7.5: Chain, case by case.
func TestChain(t *testing.T) {
	defs := []api.Macro{def("one", "1"), def("two", "one , one")}
	x := expand(t, defs, toks("a two"))
	for at, want := range [][]int{nil, {1, 2}, {1}, {1, 3}} {
		if l, e := macro.Chain(x, at); !slices.Equal(l, want) || e != api.OK {
			t.Errorf("Chain of %d: %v, error %d, want %v", at, l, e, want)
		}
	}
	for _, at := range []int{-1, 4, math.MaxInt, math.MinInt} {
		if l, e := macro.Chain(x, at); e != api.ErrArg || len(l) > 0 {
			t.Errorf("Chain of %d: %v, error %d", at, l, e)
		}
	}
	by := func(n int) api.Origin { return api.Origin{Macro: 5, At: -7, By: n} }
	opened := func(uses ...int) []api.Opened {
		var l []api.Opened
		for _, n := range uses {
			l = append(l, api.Opened{Macro: -3, Use: by(n)})
		}
		return l
	}
	for i, c := range []struct {
		by     int
		opened []api.Opened
		want   []int
		e      api.Errno
	}{
		{0, nil, nil, api.OK}, {1, nil, nil, api.ErrArg}, {-1, opened(0, 0), nil, api.ErrArg}, {3, opened(0, 0), nil, api.ErrArg}, {math.MaxInt, opened(0), nil, api.ErrArg}, {math.MinInt, opened(0), nil, api.ErrArg},
		{1, opened(0), []int{1}, api.OK}, {3, opened(0, 1, 2), []int{1, 2, 3}, api.OK}, {3, opened(7, 0, 2), []int{2, 3}, api.OK}, {2, opened(0, 0, 3), []int{2}, api.OK},
		{1, opened(1), nil, api.ErrArg}, {1, opened(2, 0), nil, api.ErrArg}, {2, opened(2, 1), nil, api.ErrArg}, {3, opened(-1, 1, 2), nil, api.ErrArg}, {3, opened(0, 3, 2), nil, api.ErrArg}, {2, opened(0, 2), nil, api.ErrArg}, {2, opened(0, 5), nil, api.ErrArg},
	} {
		l, e := macro.Chain(api.Expanded{Origins: []api.Origin{by(0), by(c.by)}, Opened: c.opened}, 1)
		if !slices.Equal(l, c.want) || e != c.e {
			t.Errorf("%d: Chain: %v, error %d, want %v, %d", i, l, e, c.want, c.e)
		}
	}
	if _, e := macro.Chain(api.Expanded{Tokens: toks("a b")}, 0); e != api.ErrArg {
		t.Errorf("Chain without Origins: error %d", e)
	}
}
