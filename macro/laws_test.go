package macro_test

import (
	"math/rand"
	"slices"
	"strings"
	"testing"

	"zermelo/api"
	"zermelo/macro"
)

// oneByOne expands a list by First, Args and Put alone. It returns the tokens and how many expansions there were; false, if one of these has an error.
func oneByOne(t *testing.T, defs []api.Macro, l []api.Token) ([]api.Token, int, bool) {
	for n := 0; n < 200; n++ {
		at, which, e := macro.First(defs, l)
		if e != api.OK {
			return nil, n, false
		}
		if at < 0 {
			return l, n, true
		}
		var args [][]api.Token
		behind := at + 1
		if len(defs[which].Params) > 0 {
			args, behind, e = macro.Args(l, at+1)
		}
		if e != api.OK {
			return nil, n, false
		}
		put, e := macro.Put(defs[which], args, n+1)
		if e != api.OK {
			return nil, n, false
		}
		l = slices.Concat(l[:at], put, l[behind:])
	}
	return nil, 200, false
}

// P7.9: Expand does what First, Args and Put do, one after the other.
func TestOneByOne(t *testing.T) {
	r := rand.New(rand.NewSource(78))
	done := 0
	for range 1500 {
		g := newGenerator(r, true)
		l := g.list(r.Intn(6), 0, nil)
		want, n, right := oneByOne(t, g.defs, l)
		x, _, e := macro.Expand(g.defs, l)
		switch {
		case n == 200 || e == api.ErrDeep: // Put does not know how deep it is
		case right != (e == api.OK) || !slices.Equal(x.Tokens, want) || right && len(x.Opened) != n:
			t.Errorf("Expand of %s with %s: %s, error %d, want %s", text(l), told(g.defs), text(x.Tokens), e, text(want))
		case right:
			done++
		}
	}
	if done < 400 {
		t.Errorf("only %d cases", done)
	}
}

// renamed returns a macro with another name for a fresh one, and that name.
func renamed(m api.Macro, old, other string) api.Macro {
	m = cloned([]api.Macro{m})[0]
	m.Fresh[slices.Index(m.Fresh, old)] = other
	for i, t := range m.Body {
		if t.Kind == api.TkName && t.Text == old {
			m.Body[i].Text = other
		}
	}
	return m
}

// P7.10: other names for the Fresh names of a macro, also those of macros, change nothing but fresh names.
func TestOtherFreshNames(t *testing.T) {
	r := rand.New(rand.NewSource(79))
	changed := 0
	for range 3000 {
		g := newGenerator(r, false)
		which := r.Intn(len(g.defs))
		m := g.defs[which]
		other := one(r, "v", "m0", "m4", "x0")
		taken := slices.ContainsFunc(m.Body, func(x api.Token) bool { return x.Kind == api.TkName && x.Text == other })
		if len(m.Fresh) == 0 || taken || slices.Contains(m.Params, other) {
			continue
		}
		old := one(r, m.Fresh...)
		defs := slices.Clone(g.defs)
		defs[which] = renamed(m, old, other)
		l := g.list(r.Intn(8), 0, []string{"t", "u"})
		x, at, e := macro.Expand(g.defs, l)
		y, otherAt, otherE := macro.Expand(defs, l)
		for i := range x.Tokens {
			o := x.Origins[i]
			if s := &x.Tokens[i].Text; o.Macro == which && strings.HasPrefix(*s, old+"#") && m.Body[o.At].Text == old {
				*s = other + strings.TrimPrefix(*s, old)
				changed++
			}
		}
		if !sameExpanded(x, y) || at != otherAt || e != otherE {
			t.Errorf("%s with %s: %s, error %d; with %s for %s: %s, error %d", text(l), told(g.defs), text(x.Tokens), e, other, old, text(y.Tokens), otherE)
		}
	}
	if changed < 500 {
		t.Errorf("only %d fresh names", changed)
	}
}

// P7.10: neither the list nor two expansions have a fresh name in common.
func TestHygiene(t *testing.T) {
	r := rand.New(rand.NewSource(80))
	for range 2000 {
		g := newGenerator(r, false)
		l := g.list(r.Intn(8), 0, []string{"t", "u"})
		x, _, _ := macro.Expand(g.defs, l)
		puts := map[string]int{}
		for i, w := range x.Tokens {
			_, n, is := macro.Fresh(w.Text)
			if w.Kind != api.TkName || !is {
				continue
			}
			if by, before := puts[w.Text]; x.Origins[i].By != n || before && by != n {
				t.Errorf("Expand of %s with %s: %s from %v", text(l), told(g.defs), w.Text, x.Origins[i])
			}
			puts[w.Text] = x.Origins[i].By
		}
	}
}

// moved returns what Expand returns for a list that stands behind so many tokens with so many expansions.
func moved(x api.Expanded, tokens, expansions int) api.Expanded {
	origin := func(o api.Origin) api.Origin {
		if o.By == 0 {
			o.At += tokens
		} else {
			o.By += expansions
		}
		return o
	}
	for i, o := range x.Origins {
		x.Origins[i] = origin(o)
		if s, _, is := macro.Fresh(x.Tokens[i].Text); is && o.By > 0 && x.Tokens[i].Kind == api.TkName {
			put, _ := macro.Put(api.Macro{Name: "m", Fresh: []string{s}, Body: []api.Token{name(s)}}, nil, o.By+expansions)
			x.Tokens[i].Text = put[0].Text
		}
	}
	for i, o := range x.Opened {
		x.Opened[i].Use = origin(o.Use)
	}
	return x
}

// P7.11: a list without uses stays; two lists behind each other are expanded one after the other.
func TestPartsOfLists(t *testing.T) {
	r := rand.New(rand.NewSource(81))
	cases := 0
	for range 4000 {
		g := newGenerator(r, false)
		a, b := g.list(r.Intn(6), 0, nil), g.list(r.Intn(6), 0, nil)
		if at, _, _ := macro.First(g.defs, a); at < 0 {
			if x := expand(t, g.defs, a); !slices.Equal(x.Tokens, a) || len(x.Opened) > 0 {
				t.Errorf("Expand of %s with %s: %s", text(a), told(g.defs), text(x.Tokens))
			}
		}
		x, _, e := macro.Expand(g.defs, a)
		y, at, f := macro.Expand(g.defs, b)
		both, bothAt, h := macro.Expand(g.defs, slices.Concat(a, b))
		if e != api.OK {
			continue
		}
		cases++
		if f != api.OK {
			if h != f || bothAt != len(a)+at {
				t.Errorf("Expand of %s and %s with %s: error %d at %d, want %d at %d", text(a), text(b), told(g.defs), h, bothAt, f, len(a)+at)
			}
			continue
		}
		y = moved(y, len(a), len(x.Opened))
		want := api.Expanded{Tokens: slices.Concat(x.Tokens, y.Tokens), Origins: slices.Concat(x.Origins, y.Origins), Opened: slices.Concat(x.Opened, y.Opened)}
		if !sameExpanded(both, want) || h != api.OK || bothAt != 0 {
			t.Errorf("Expand of %s and %s with %s: %s, error %d, want %s", text(a), text(b), told(g.defs), text(both.Tokens), h, text(want.Tokens))
		}
	}
	if cases < 1000 {
		t.Errorf("only %d cases", cases)
	}
}

// P7.12: the order of the macros, and macros that are not used, do not matter.
func TestOrderOfMacros(t *testing.T) {
	r := rand.New(rand.NewSource(82))
	for range 2000 {
		g := newGenerator(r, true)
		l := g.list(r.Intn(8), 0, nil)
		order := r.Perm(len(g.defs) + 2)
		defs := make([]api.Macro, len(order))
		for i, m := range append(slices.Clone(g.defs), def("other ( p )", "x m0 p"), def("more", "more")) {
			defs[order[i]] = m
		}
		x, at, e := macro.Expand(g.defs, l)
		for i := range x.Origins {
			if o := &x.Origins[i]; o.Macro >= 0 {
				o.Macro = order[o.Macro]
			}
		}
		for i := range x.Opened {
			o := &x.Opened[i]
			o.Macro = order[o.Macro]
			if o.Use.Macro >= 0 {
				o.Use.Macro = order[o.Use.Macro]
			}
		}
		if y, otherAt, otherE := macro.Expand(defs, l); !sameExpanded(x, y) || at != otherAt || e != otherE {
			t.Errorf("Expand of %s with %s: %s, error %d at %d, want %s, %d at %d", text(l), told(defs), text(y.Tokens), otherE, otherAt, text(x.Tokens), e, at)
		}
		found, _ := macro.Circles(g.defs)
		others, _ := macro.Circles(defs)
		for i := range g.defs {
			if found[i] != others[order[i]] {
				t.Errorf("Circles of %s: %v, of %s: %v", told(g.defs), found, told(defs), others)
			}
		}
	}
}

// P7.13: each token is that of its origin, and Chain leads from it to the list.
func TestLawsOfOrigins(t *testing.T) {
	r := rand.New(rand.NewSource(83))
	for range 2000 {
		g := newGenerator(r, true)
		l := g.list(r.Intn(8), 0, nil)
		x, _, e := macro.Expand(g.defs, l)
		if e != api.OK {
			continue
		}
		if len(x.Origins) != len(x.Tokens) {
			t.Fatalf("%d origins of %d tokens", len(x.Origins), len(x.Tokens))
		}
		of := func(o api.Origin) api.Token {
			if o.Macro < 0 {
				return l[o.At]
			}
			return g.defs[o.Macro].Body[o.At]
		}
		for i, w := range x.Tokens {
			o := x.Origins[i]
			s, n, is := macro.Fresh(w.Text)
			if from := of(o); w.Kind != from.Kind || w.Text != from.Text && !(is && s == from.Text && n == o.By && o.Macro >= 0 && slices.Contains(g.defs[o.Macro].Fresh, s)) {
				t.Errorf("Expand of %s with %s: %v from %v", text(l), told(g.defs), w, from)
			}
			numbers, e := macro.Chain(x, i)
			by := o
			for k := len(numbers) - 1; k >= 0 && e == api.OK; k-- {
				n := numbers[k]
				if by.By != n || x.Opened[n-1].Macro != by.Macro || of(x.Opened[n-1].Use).Text != g.defs[by.Macro].Name {
					t.Errorf("Chain of %d: %v; %v", i, numbers, x)
				}
				by = x.Opened[n-1].Use
			}
			if by.By != 0 || by.Macro != -1 || e != api.OK {
				t.Errorf("Chain of %d: %v, error %d; %v", i, numbers, e, x)
			}
		}
	}
}

// P7.17: without circles, at most 20 macros are never too deep.
func TestEnds(t *testing.T) {
	r := rand.New(rand.NewSource(84))
	for range 3000 {
		g := newGenerator(r, r.Intn(2) == 0)
		found, _ := macro.Circles(g.defs)
		_, _, e := macro.Expand(g.defs, g.list(r.Intn(8), 0, nil))
		if !slices.Contains(found, true) && e == api.ErrDeep {
			t.Errorf("Expand with %s: ErrDeep", told(g.defs))
		}
	}
	if _, _, e := macro.Expand(chained(20), toks("m0")); e != api.OK {
		t.Errorf("20 macros: error %d", e)
	}
	if _, _, e := macro.Expand([]api.Macro{def("f ( g )", "g ( g )")}, toks("f ( f )")); e != api.ErrLimit {
		t.Errorf("a macro that its argument uses: error %d, want ErrLimit", e)
	}
}
