package macro_test

import (
	"math/rand"
	"slices"
	"strconv"
	"strings"
	"testing"

	"zermelo/api"
	"zermelo/macro"
)

// numbered returns so many macros without anything but a name.
func numbered(n int) []api.Macro {
	var defs []api.Macro
	for i := range n {
		defs = append(defs, api.Macro{Name: "m" + strconv.Itoa(i)})
	}
	return defs
}

// namesOf returns so many different names.
func namesOf(letter string, n int) []string {
	var l []string
	for i := range n {
		l = append(l, letter+strconv.Itoa(i))
	}
	return l
}

// with returns a macro with these tokens as its Body.
func with(name string, body ...api.Token) api.Macro { return api.Macro{Name: name, Body: body} }

// P7.1: which macros are right.
func TestRightMacros(t *testing.T) {
	long := strings.Repeat("a", 24)
	for _, c := range []struct {
		m api.Macro
		e api.Errno
	}{
		{swap(), api.OK}, {api.Macro{Name: "m"}, api.OK}, {def("m ( ; t )", "t"), api.OK}, {def("m ( x )", ""), api.OK}, {def(long, ""), api.OK},
		// Names.
		{api.Macro{}, api.ErrMacro}, {def(long+"a", ""), api.ErrMacro}, {def("M", ""), api.ErrMacro}, {def("if", ""), api.ErrMacro}, {def("1a", ""), api.ErrMacro}, {def("t#1", ""), api.ErrMacro}, {api.Macro{Name: "a b"}, api.ErrMacro}, {api.Macro{Name: "m\n"}, api.ErrMacro},
		{def("m ( X )", ""), api.ErrMacro}, {def("m ( x , end )", ""), api.ErrMacro}, {api.Macro{Name: "m", Params: []string{""}}, api.ErrMacro}, {def("m ( x#1 )", ""), api.ErrMacro}, {def("m ( "+long+"a )", ""), api.ErrMacro},
		{def("m ( ; T )", ""), api.ErrMacro}, {def("m ( ; t , of )", ""), api.ErrMacro}, {api.Macro{Name: "m", Fresh: []string{"t", ""}}, api.ErrMacro}, {def("m ( ; t#1 )", ""), api.ErrMacro},
		// Names that are there twice.
		{def("m ( x , y , x )", ""), api.ErrMacro}, {def("m ( ; t , u , t )", ""), api.ErrMacro}, {def("m ( x , y ; t , y )", ""), api.ErrMacro}, {def("m ( m )", "m"), api.OK}, {def("m ( ; m )", "m"), api.OK},
		// How many there are.
		{api.Macro{Name: "m", Params: namesOf("p", 8), Fresh: namesOf("t", 8)}, api.OK}, {api.Macro{Name: "m", Params: namesOf("p", 9)}, api.ErrMacro}, {api.Macro{Name: "m", Fresh: namesOf("t", 9)}, api.ErrMacro},
		// Tokens of the Body.
		{with("m", key("macro")), api.ErrMacro}, {with("m", name("x"), key("endm")), api.ErrMacro}, {with("m", key("include"), str("x"), sign(";")), api.ErrMacro}, {with("m", name("x"), name("x"), name("t#6000")), api.ErrMacro}, {with("m", name("t#1")), api.ErrMacro},
		{with("m", name("macro"), str("endm"), sign("include"), str("t#1"), key("t#1"), sign("t#1"), name("t#0"), name("t#6001"), name("t#01"), name("if#1"), name("#1"), name("t#1#1"), name("T#1"), api.Token{}, api.Token{Kind: -1, Text: "\xff"}), api.OK},
		{with("m", many(name("x"), 6000)...), api.OK}, {with("m", many(name("x"), 6001)...), api.ErrLimit},
	} {
		at, e := macro.Check([]api.Macro{c.m})
		if at != 0 || e != c.e {
			t.Errorf("Check of %s: error %d at %d, want %d", told([]api.Macro{c.m}), e, at, c.e)
		}
		if at, e = macro.Check([]api.Macro{{Name: "other"}, c.m}); e != c.e || at != 0 && e != api.ErrMacro || at != 1 && e == api.ErrMacro {
			t.Errorf("Check of %s as the second one: error %d at %d, want %d", told([]api.Macro{c.m}), e, at, c.e)
		}
	}
}

// P7.1: which of several errors counts.
func TestOrderOfCheck(t *testing.T) {
	one, bad, large := def("one", "1"), def("one ( x , x )", ""), with("large", many(sign(";"), 6000)...)
	for i, c := range []struct {
		defs []api.Macro
		at   int
		e    api.Errno
	}{
		{nil, 0, api.OK}, {[]api.Macro{swap(), one}, 0, api.OK}, {[]api.Macro{swap(), one, one}, 2, api.ErrTwice}, {[]api.Macro{one, swap(), one, bad}, 2, api.ErrTwice}, {[]api.Macro{one, swap(), bad, one}, 2, api.ErrMacro}, {[]api.Macro{bad, one, one}, 0, api.ErrMacro},
		{[]api.Macro{large}, 0, api.OK}, {[]api.Macro{large, swap()}, 0, api.ErrLimit}, {[]api.Macro{swap(), large}, 0, api.ErrLimit}, {[]api.Macro{large, swap(), bad}, 2, api.ErrMacro}, {[]api.Macro{large, one, one}, 2, api.ErrTwice}, {[]api.Macro{large, {Name: "m"}}, 0, api.OK},
		{numbered(100), 0, api.OK}, {numbered(101), 0, api.ErrLimit}, {make([]api.Macro, 101), 0, api.ErrLimit}, {make([]api.Macro, 100), 0, api.ErrMacro}, {append(numbered(100), one), 0, api.ErrLimit}, {append(numbered(99), one), 0, api.OK}, {append(numbered(99), bad), 99, api.ErrMacro},
		{append(numbered(98), large, one), 0, api.ErrLimit}, {append(numbered(50), numbered(50)...), 50, api.ErrTwice},
	} {
		if at, e := macro.Check(c.defs); at != c.at || e != c.e {
			t.Errorf("%d: error %d at %d, want %d at %d", i, e, at, c.e, c.at)
		}
		if at, e := checkModel(c.defs); at != c.at || e != c.e {
			t.Errorf("%d: the model has the error %d at %d, want %d at %d", i, e, at, c.e, c.at)
		}
	}
}

// spoilt returns macros of which some may be wrong.
func spoilt(g *generator) []api.Macro {
	defs := cloned(g.defs)
	for range g.Intn(4) {
		m := &defs[g.Intn(len(defs))]
		wrong := one(g.Rand, "m0", "p", "q", "t", "if", "P", "t#1", "", "x1")
		switch g.Intn(4) {
		case 0:
			m.Name = wrong
		case 1:
			m.Params = append(m.Params, wrong)
		case 2:
			m.Fresh = append(m.Fresh, wrong)
		case 3:
			m.Body = append(m.Body, one(g.Rand, name(wrong), str(wrong), key("endm"), key("if"), name("macro"), name("t#9999")))
		}
	}
	return defs
}

// P7.1: macros by chance.
func TestRandomCheck(t *testing.T) {
	r := rand.New(rand.NewSource(71))
	for range 3000 {
		defs := spoilt(newGenerator(r, true))
		at, e := macro.Check(defs)
		if wantAt, want := checkModel(defs); at != wantAt || e != want {
			t.Errorf("Check of %s: error %d at %d, want %d at %d", told(defs), e, at, want, wantAt)
		}
	}
}

// P7.6: which macros can come to use themselves.
func TestCircles(t *testing.T) {
	for _, c := range []struct {
		defs []api.Macro
		want []bool
	}{
		{nil, nil},
		{[]api.Macro{def("ring", "ring")}, []bool{true}},
		{[]api.Macro{swap(), def("one", "1"), def("two", "one , one")}, []bool{false, false, false}},
		{[]api.Macro{def("a", "b"), def("b", "a 1"), def("c", "a"), def("d ( d )", "d")}, []bool{true, true, false, false}},
		{[]api.Macro{def("a", "b"), def("b", "c"), def("c", "d"), def("d", "b")}, []bool{false, true, true, true}},
		{[]api.Macro{def("a ( ; b )", "b"), def("b ( a )", "a"), def("c ( x ; t )", "x t c")}, []bool{false, false, true}},
		{[]api.Macro{def("a ( ; a )", "a")}, []bool{false}}, {[]api.Macro{def("a ( x ; t , b )", "b t"), def("b", "a"), def("t", "b"), def("c ( a ; b )", "a b c")}, []bool{false, false, false, true}},
		{[]api.Macro{with("a", str("a"), key("a"), sign("a"))}, []bool{false}},
		{[]api.Macro{def("a ( b )", "b a"), def("b", "a"), def("c", "x")}, []bool{true, false, false}},
		{[]api.Macro{def("f ( g )", "g ( g )")}, []bool{false}},
	} {
		got, e := macro.Circles(c.defs)
		if !slices.Equal(got, c.want) || e != api.OK {
			t.Errorf("Circles of %s: %v, error %d, want %v", told(c.defs), got, e, c.want)
		}
	}
	r := rand.New(rand.NewSource(72))
	for range 2000 {
		g := newGenerator(r, true)
		got, e := macro.Circles(g.defs)
		if want := circlesModel(g.defs); !slices.Equal(got, want) || e != api.OK {
			t.Errorf("Circles of %s: %v, error %d, want %v", told(g.defs), got, e, want)
		}
	}
	chain := numbered(100)
	for i := range chain {
		chain[i].Body = toks("m" + strconv.Itoa((i+1)%100))
	}
	if got, e := macro.Circles(chain); e != api.OK || slices.Contains(got, false) {
		t.Errorf("Circles of a ring of 100: %v, error %d", got, e)
	}
}

// P7.6: the errors of Check, and nothing else with them.
func TestErrorsOfCircles(t *testing.T) {
	for want, defs := range map[api.Errno][]api.Macro{
		api.ErrLimit: numbered(101), api.ErrMacro: {def("a", "a"), def("if", "")}, api.ErrTwice: {def("a", ""), def("a", "a")},
	} {
		if got, e := macro.Circles(defs); e != want || len(got) > 0 {
			t.Errorf("Circles: error %d, want %d; %v", e, want, got)
		}
	}
}
