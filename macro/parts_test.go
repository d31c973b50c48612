package macro_test

import (
	"math"
	"math/rand"
	"slices"
	"strings"
	"testing"

	"zermelo/api"
	"zermelo/macro"
)

// written writes arguments with bars between them.
func written(args [][]api.Token) string {
	var s []string
	for _, arg := range args {
		s = append(s, text(arg))
	}
	return strings.Join(s, " | ")
}

// sameArgs reports whether two lists of arguments are the same.
func sameArgs(a, b [][]api.Token) bool {
	return slices.EqualFunc(a, b, func(x, y []api.Token) bool { return slices.Equal(x, y) })
}

// holdArgs holds Args against the model, for each index.
func holdArgs(t *testing.T, l []api.Token) {
	t.Helper()
	for at := -1; at <= len(l); at++ {
		args, behind, e := macro.Args(l, at)
		want, wantBehind, wantE := argsModel(l, at)
		if !sameArgs(args, want) || behind != wantBehind || e != wantE {
			t.Errorf("Args of %s, %d: %s, %d, error %d, want %s, %d, %d", text(l), at, written(args), behind, e, written(want), wantBehind, wantE)
		}
	}
}

// P7.3: Args, case by case.
func TestArgs(t *testing.T) {
	for _, c := range []struct {
		src    string
		at     int
		want   string
		many   int
		behind int
		e      api.Errno
	}{
		{"( a , ( b , c ) ) d", 0, "a | ( b , c )", 2, 9, api.OK},
		{"( )", 0, "", 1, 2, api.OK}, {"( , )", 0, " | ", 2, 3, api.OK}, {"f ( , ] )", 1, " | ", 2, 4, api.OK}, {"( a ] b", 0, "a", 1, 3, api.OK}, {"( [ a , } , { , ) ; )", 0, "[ a , } | { , ) ;", 2, 11, api.OK},
		{"( ( ( , ) , ) , x )", 0, "( ( , ) , ) | x", 2, 10, api.OK}, {"( ( ( , ) , ) , x )", 1, "( , ) | ", 2, 7, api.OK}, {"a ( b ; c := 1 , \"x\" ) (", 1, "b ; c := 1 | x", 2, 10, api.OK},
		{"( a", 0, "", 0, 0, api.ErrActuals}, {"(", 0, "", 0, 0, api.ErrActuals}, {"( ( )", 0, "", 0, 0, api.ErrActuals}, {"( [ ( ] )", 0, "", 0, 0, api.ErrActuals}, {"a ( b , c", 1, "", 0, 0, api.ErrActuals},
		{"( a )", 1, "", 0, 0, api.ErrArg}, {"( a )", 2, "", 0, 0, api.ErrArg}, {"( a )", 3, "", 0, 0, api.ErrArg}, {"( a )", -1, "", 0, 0, api.ErrArg}, {"[ a ]", 0, "", 0, 0, api.ErrArg}, {"", 0, "", 0, 0, api.ErrArg}, {"( a )", math.MaxInt, "", 0, 0, api.ErrArg}, {"( a )", math.MinInt, "", 0, 0, api.ErrArg}, {"a (", 0, "", 0, 0, api.ErrArg},
	} {
		args, behind, e := macro.Args(toks(c.src), c.at)
		if written(args) != c.want || len(args) != c.many || behind != c.behind || e != c.e {
			t.Errorf("Args of %s, %d: %s, %d, error %d, want %s, %d, %d", c.src, c.at, written(args), behind, e, c.want, c.behind, c.e)
		}
		holdArgs(t, toks(c.src))
	}
	strange := []api.Token{sign("("), str(")"), name("]"), key("("), str(","), name(","), {Kind: 9, Text: "}"}, sign(","), sign("")}
	holdArgs(t, strange)
	holdArgs(t, append(strange, sign(")")))
}

// P7.3: the limit of Args comes first.
func TestLimitOfArgs(t *testing.T) {
	full := append([]api.Token{sign("(")}, append(many(sign(","), 5998), sign(")"))...)
	if args, behind, e := macro.Args(full, 0); len(args) != 5999 || behind != 6000 || e != api.OK {
		t.Errorf("%d arguments, %d, error %d", len(args), behind, e)
	}
	for _, at := range []int{-1, 0, 1, 6001} {
		if args, behind, e := macro.Args(append(full, name("x")), at); len(args) > 0 || behind != 0 || e != api.ErrLimit {
			t.Errorf("%d: %d arguments, %d, error %d", at, len(args), behind, e)
		}
	}
}

// P7.3: Args of all short lists.
func TestShortArgs(t *testing.T) {
	lists([]api.Token{sign("("), sign(")"), sign(","), sign("["), sign("}"), name("x")}, 6, func(l []api.Token) { holdArgs(t, l) })
}

// P7.3: First.
func TestFirst(t *testing.T) {
	defs := []api.Macro{def("one", "1"), def("two ( x )", "one , one"), swap()}
	for _, c := range []struct {
		l         []api.Token
		at, which int
	}{
		{toks("x two one"), 1, 1}, {toks("x y"), -1, -1}, {nil, -1, -1}, {toks("one"), 0, 0}, {toks("x ; t := swap ( one )"), 4, 2}, {toks("two"), 0, 1},
		{[]api.Token{str("one"), sign("two"), key("swap"), {Kind: 0, Text: "one"}, name("one_"), name("ONE"), name("one#1"), name("two")}, 7, 1}, {append(many(sign(";"), 5999), name("swap")), 5999, 2},
	} {
		if at, which, e := macro.First(defs, c.l); at != c.at || which != c.which || e != api.OK {
			t.Errorf("First of %s: %d, %d, error %d, want %d, %d", text(c.l), at, which, e, c.at, c.which)
		}
		if at, which, e := macro.First(nil, c.l); at != -1 || which != -1 || e != api.OK {
			t.Errorf("First of %s without macros: %d, %d, error %d", text(c.l), at, which, e)
		}
	}
	for i, c := range []struct {
		defs []api.Macro
		l    []api.Token
		e    api.Errno
	}{
		{defs, many(name("one"), 6001), api.ErrLimit}, {[]api.Macro{def("if", "")}, many(name("x"), 6001), api.ErrLimit}, {[]api.Macro{def("one", ""), def("if", "")}, toks("one"), api.ErrMacro}, {append(defs, def("one", "")), toks("one"), api.ErrTwice}, {numbered(101), nil, api.ErrLimit},
	} {
		if at, which, e := macro.First(c.defs, c.l); at != 0 || which != 0 || e != c.e {
			t.Errorf("%d: First: %d, %d, error %d, want %d", i, at, which, e, c.e)
		}
	}
}

// P7.3: Put, case by case.
func TestPut(t *testing.T) {
	for _, c := range []struct {
		m    api.Macro
		args []string
		n    int
		want string
	}{
		{swap(), []string{"a", "b"}, 7, "t#7 := a ; a := b ; b := t#7 ;"},
		{swap(), []string{"a [ 1 ]", ""}, 6000, "t#6000 := a [ 1 ] ; a [ 1 ] := ; := t#6000 ;"},
		{swap(), []string{"y", "x"}, 1, "t#1 := y ; y := x ; x := t#1 ;"},
		{swap(), []string{"t", "t#1"}, 1, "t#1 := t ; t := t#1 ; t#1 := t#1 ;"},
		{def("m", "m , m"), nil, 1, "m , m"}, {def("m", ""), nil, 1, ""}, {def("m ( x )", "x"), []string{""}, 1, ""}, {def("m ( x )", ""), []string{"a b"}, 1, ""},
		{def("m ( m )", "m m"), []string{"a , )"}, 1, "a , ) a , )"}, {def("m ( ; m )", "m x m"), nil, 12, "m#12 x m#12"},
		{with("m", str("x"), name("x")), nil, 1, "x x"},
	} {
		var args [][]api.Token
		for _, arg := range c.args {
			args = append(args, toks(arg))
		}
		l, e := macro.Put(c.m, args, c.n)
		if text(l) != c.want || e != api.OK {
			t.Errorf("Put of %s with %s: %s, error %d, want %s", told([]api.Macro{c.m}), written(args), text(l), e, c.want)
		}
	}
	m := api.Macro{Name: "m", Params: []string{"x"}, Fresh: []string{"t"}, Body: []api.Token{str("x"), key("t"), sign("x"), {Kind: api.TkName, Text: "t", At: 3, To: 4, Line: 5, Col: 6}, {Kind: api.TkName, Text: "x", At: 7}}}
	arg := []api.Token{{Kind: 9, Text: "\xff", At: -1, To: -2, Line: -3, Col: -4}}
	l, e := macro.Put(m, [][]api.Token{arg}, 3)
	if want := []api.Token{str("x"), key("t"), sign("x"), {Kind: api.TkName, Text: "t#3", At: 3, To: 4, Line: 5, Col: 6}, arg[0]}; e != api.OK || !slices.Equal(l, want) {
		t.Errorf("Put: %v, error %d, want %v", l, e, want)
	}
}

// P7.3: the errors of Put, and their order.
func TestErrorsOfPut(t *testing.T) {
	twice, bad := def("m ( x )", "x x"), def("m ( x , x )", "x x")
	arg := func(n int) [][]api.Token { return [][]api.Token{many(name("a"), n)} }
	large := api.Macro{Name: "m", Params: []string{"x"}, Body: many(name("x"), 6000)}
	for i, c := range []struct {
		m    api.Macro
		args [][]api.Token
		n    int
		e    api.Errno
		long int
	}{
		{twice, arg(3000), 1, api.OK, 6000}, {twice, arg(3001), 1, api.ErrLimit, 0}, {twice, arg(6000), 1, api.ErrLimit, 0}, {def("m ( x )", "x"), arg(6000), 6000, api.OK, 6000}, {def("m ( x )", "x 1"), arg(6000), 1, api.ErrLimit, 0}, {def("m ( x )", ""), arg(6000), 1, api.OK, 0},
		{def("m ( x )", ""), arg(6001), 1, api.ErrLimit, 0}, {bad, arg(6001), 0, api.ErrLimit, 0}, {def("m ( x , y )", ""), append(arg(3000), arg(3001)...), 1, api.ErrLimit, 0}, {def("m ( x , y )", "x y"), append(arg(3000), arg(3000)...), 1, api.OK, 6000}, {twice, append(arg(3000), arg(3001)...), 0, api.ErrLimit, 0},
		{bad, arg(6000), 0, api.ErrMacro, 0}, {bad, nil, 1, api.ErrMacro, 0}, {api.Macro{}, nil, 1, api.ErrMacro, 0},
		{twice, arg(1), 0, api.ErrArg, 0}, {twice, arg(1), -1, api.ErrArg, 0}, {twice, arg(1), 6001, api.ErrArg, 0}, {twice, nil, math.MaxInt, api.ErrArg, 0}, {twice, arg(4000), 0, api.ErrArg, 0}, {twice, arg(1), math.MinInt, api.ErrArg, 0},
		{twice, nil, 1, api.ErrActuals, 0}, {twice, [][]api.Token{nil, nil}, 1, api.ErrActuals, 0}, {def("m", ""), [][]api.Token{nil}, 1, api.ErrActuals, 0}, {swap(), [][]api.Token{nil}, 1, api.ErrActuals, 0}, {twice, append(arg(3001), nil), 1, api.ErrActuals, 0},
		{large, arg(1), 1, api.OK, 6000}, {large, arg(0), 1, api.OK, 0}, {large, arg(2), 1, api.ErrLimit, 0}, {large, arg(6000), 1, api.ErrLimit, 0}, {with("m", many(name("x"), 6001)...), nil, 1, api.ErrLimit, 0},
	} {
		if l, e := macro.Put(c.m, c.args, c.n); e != c.e || len(l) != c.long {
			t.Errorf("%d: error %d, want %d; %d tokens, want %d", i, e, c.e, len(l), c.long)
		}
	}
}

// P7.3: Put against what the model puts.
func TestRandomPuts(t *testing.T) {
	r := rand.New(rand.NewSource(74))
	for range 3000 {
		g := newGenerator(r, true)
		m := g.defs[0]
		var args [][]api.Token
		var words [][]word
		for range m.Params {
			arg := g.list(r.Intn(5), 0, nil)
			args = append(args, arg)
			var l []word
			for _, x := range arg {
				l = append(l, word{Token: x})
			}
			words = append(words, l)
		}
		n := 1 + r.Intn(6000)
		l, e := macro.Put(m, args, n)
		if want := tokensOf(putModel(m, 0, n, word{}, words)); !slices.Equal(l, want) || e != api.OK {
			t.Errorf("Put of %s with %s: %s, error %d, want %s", told(g.defs[:1]), written(args), text(l), e, text(want))
		}
	}
}
