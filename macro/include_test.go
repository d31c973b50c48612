package macro_test

import (
	"math/rand"
	"slices"
	"strconv"
	"strings"
	"testing"

	"zermelo/api"
	"zermelo/lex"
	"zermelo/macro"
)

// include carries out Include.
func include(src string, texts []api.Text) included {
	var x included
	x.l, x.name, x.at, x.e = macro.Include(src, texts)
	return x
}

// holdInclude holds Include against the model.
func holdInclude(t *testing.T, src string, texts []api.Text) api.Errno {
	t.Helper()
	x, want := include(src, texts), includeModel(src, texts)
	if !slices.Equal(x.l, want.l) || x.name != want.name || x.at != want.at || x.e != want.e {
		t.Errorf("Include of %q: %s, error %d in %q at %d, want %s, %d in %q at %d", src, text(x.l), x.e, x.name, x.at, text(want.l), want.e, want.name, want.at)
	}
	return x.e
}

// P7.8: Include, case by case.
func TestInclude(t *testing.T) {
	texts := []api.Text{{Name: "x", Src: "c;"}, {Name: "y", Src: `include "x"; include "x";`}, {Name: "me", Src: `a include "me";`}, {Name: "bad", Src: "c ~"}, {Name: "x", Src: "d;"}, {Name: "open", Src: `a; include "gone";`}, {Name: "half", Src: `b include "x"`}, {Name: "X y", Src: ""}, {Name: "", Src: "e"}, {Name: "q\"", Src: `INCLUDE "X y" ;f`}, {Name: "two", Src: `include "me" include "x";`}}
	for _, c := range []struct {
		src, want, name string
		at              int
		e               api.Errno
	}{
		{`a ; include "x" ; b`, "a ; c ; b", "", 0, api.OK}, {`include "y";`, "c ; c ;", "", 0, api.OK}, {"", "", "", 0, api.OK}, {"a;", "a ;", "", 0, api.OK}, {`include"X y";include"";`, "e", "", 0, api.OK}, {`include "q""" ; g`, "f g", "", 0, api.OK}, {"Include $ a\n\"x\"\n;", "c ;", "", 0, api.OK}, {`"include" includes`, "include includes", "", 0, api.OK}, {`include "x";;`, "c ; ;", "", 0, api.OK},
		// What is no include, or names no text.
		{`a; include "z";`, "", "", 3, api.ErrInclude}, {"include x;", "", "", 0, api.ErrInclude}, {"a include", "", "", 2, api.ErrInclude}, {`include "x"`, "", "", 0, api.ErrInclude}, {`include "x" a;`, "", "", 0, api.ErrInclude}, {`include "x", "y";`, "", "", 0, api.ErrInclude}, {`include ("x");`, "", "", 0, api.ErrInclude}, {`include "X";`, "", "", 0, api.ErrInclude}, {`include "x ";`, "", "", 0, api.ErrInclude}, {`include 1;`, "", "", 0, api.ErrInclude}, {`include include "x";`, "", "", 0, api.ErrInclude}, {`include;`, "", "", 0, api.ErrInclude}, {"include \"x\"\n.", "", "", 0, api.ErrInclude}, {`include "x" end`, "", "", 0, api.ErrInclude},
		{`include "open";`, "", "open", 3, api.ErrInclude}, {`include "half";`, "", "half", 2, api.ErrInclude}, {`include "two";`, "", "two", 0, api.ErrInclude},
		// Texts with errors of their own.
		{`include "bad";`, "", "bad", 2, api.ErrByte}, {"a ~", "", "", 2, api.ErrByte}, {`include "z"; ~`, "", "", 13, api.ErrByte}, {`include "bad"; include "z";`, "", "bad", 2, api.ErrByte}, {`include "z"; include "bad";`, "", "", 0, api.ErrInclude}, {`a "b`, "", "", 2, api.ErrQuote},
		// Texts that are too deep.
		{`include "me";`, "", "me", 2, api.ErrDeep}, {`a; include "x"; include "me"; include "z";`, "", "me", 2, api.ErrDeep},
	} {
		x := include(c.src, texts)
		if text(x.l) != c.want || x.name != c.name || x.at != c.at || x.e != c.e {
			t.Errorf("Include of %q: %s, error %d in %q at %d, want %s, %d in %q at %d", c.src, text(x.l), x.e, x.name, x.at, c.want, c.e, c.name, c.at)
		}
		holdInclude(t, c.src, texts)
	}
}

// including returns n texts each of which includes the next one so often; the last one is src.
func including(n, often int, src string) []api.Text {
	var texts []api.Text
	for i := range n - 1 {
		next := `include "t` + strconv.Itoa(i+1) + `";`
		texts = append(texts, api.Text{Name: "t" + strconv.Itoa(i), Src: strings.Repeat(next, often)})
	}
	return append(texts, api.Text{Name: "t" + strconv.Itoa(n-1), Src: src})
}

// P7.8: how deep texts can be.
func TestDepthOfIncludes(t *testing.T) {
	for _, c := range []struct {
		texts   int
		last    string
		name    string
		at      int
		e       api.Errno
		mention string
	}{
		{10, "a", "", 0, api.OK, "the last text is 10 deep"}, {11, "a", "t9", 0, api.ErrDeep, "the last text is 11 deep"}, {12, "~", "t9", 0, api.ErrDeep, "too deep"},
		{10, "~", "t9", 0, api.ErrByte, "an error of the text that is 10 deep"}, {11, "~", "t9", 0, api.ErrDeep, "a text that is too deep is not scanned"}, {10, `a include "t";`, "t9", 2, api.ErrInclude, "there is no such text"}, {10, `a include "t9";`, "t9", 2, api.ErrDeep, "there is such a text"}, {10, "include t9;", "t9", 0, api.ErrInclude, "no string"},
	} {
		for often := 1; often <= 2; often++ {
			texts := including(c.texts, often, c.last)
			x := include(`include "t0";`, texts)
			if x.name != c.name || x.at != c.at || x.e != c.e || c.e == api.OK && len(x.l) != 1<<(9*(often-1)) {
				t.Errorf("%s: error %d in %q at %d, want %d in %q at %d; %d tokens", c.mention, x.e, x.name, x.at, c.e, c.name, c.at, len(x.l))
			}
			holdInclude(t, `include "t0";`, texts)
		}
	}
	// A text that was included before can be too deep elsewhere.
	texts := append(including(9, 1, `include "t9";`), api.Text{Name: "t9", Src: `b`})
	if x := include(`include "t9"; include "t0"; include "t9";`, texts); x.e != api.OK || text(x.l) != "b b b" {
		t.Errorf("%s, error %d", text(x.l), x.e)
	}
	texts = append(including(9, 1, `include "t9";`), api.Text{Name: "t9", Src: `include "t10";`}, api.Text{Name: "t10", Src: "b"})
	if x := include(`include "t9"; include "t0";`, texts); x.e != api.ErrDeep || x.name != "t9" || x.at != 0 {
		t.Errorf("error %d in %q at %d", x.e, x.name, x.at)
	}
}

// P7.8: the limits.
func TestLimitsOfInclude(t *testing.T) {
	semicolons := func(n int) string { return strings.Repeat(";", n) }
	texts := []api.Text{{Name: "full", Src: semicolons(6000)}, {Name: "half", Src: semicolons(3000)}, {Name: "over", Src: semicolons(6001)}, {Name: "bad", Src: "~"}, {Name: "late", Src: semicolons(3001) + "include x;"}, {Name: "large", Src: strings.Repeat(" ", 20001)}, {Name: "empty"}}
	for i, c := range []struct {
		src, name string
		at        int
		e         api.Errno
		many      int
	}{
		{`include "full";`, "", 0, api.OK, 6000}, {`include "full"; a`, "", 0, api.ErrLimit, 0}, {`a include "full";`, "", 0, api.ErrLimit, 0}, {`include "half"; include "half";`, "", 0, api.OK, 6000}, {`include "half"; include "half"; a`, "", 0, api.ErrLimit, 0}, {`include "half"; a include "half";`, "", 0, api.ErrLimit, 0}, {`include "full"; include "empty";`, "", 0, api.OK, 6000},
		{semicolons(5997) + `include "full";`, "", 0, api.ErrLimit, 0}, {semicolons(5997) + `include "empty";`, "", 0, api.OK, 5997}, {semicolons(5998) + `include "empty";`, "", 5998 + len(`include "empty"`), api.ErrLimit, 0},
		{`include "over";`, "over", 6000, api.ErrLimit, 0}, {`include "full"; include "over";`, "over", 6000, api.ErrLimit, 0}, {`include "large";`, "large", 0, api.ErrLimit, 0}, {strings.Repeat(" ", 20001), "", 0, api.ErrLimit, 0}, {semicolons(6001), "", 6000, api.ErrLimit, 0},
		// Errors are those of the first token with one.
		{`include "full"; a include "bad";`, "", 0, api.ErrLimit, 0}, {`include "full"; include "bad"; a`, "bad", 0, api.ErrByte, 0}, {`include "full"; include x; a`, "", 16, api.ErrInclude, 0}, {`include "full"; a include x;`, "", 0, api.ErrLimit, 0}, {`include "half"; include "late";`, "", 0, api.ErrLimit, 0}, {`include "late"; include "full";`, "late", 3001, api.ErrInclude, 0},
	} {
		x := include(c.src, texts)
		if x.name != c.name || x.at != c.at || x.e != c.e || len(x.l) != c.many {
			t.Errorf("%d: error %d in %q at %d, want %d in %q at %d; %d tokens, want %d", i, x.e, x.name, x.at, c.e, c.name, c.at, len(x.l), c.many)
		}
	}
	for _, src := range []string{"a", "~", "include x;", strings.Repeat(" ", 20001)} {
		if x := include(src, make([]api.Text, 51)); x.e != api.ErrLimit || x.name != "" || x.at != 0 || len(x.l) > 0 {
			t.Errorf("51 texts: error %d in %q at %d", x.e, x.name, x.at)
		}
	}
	if x := include("a", make([]api.Text, 50)); x.e != api.OK || text(x.l) != "a" {
		t.Errorf("50 texts: error %d", x.e)
	}
}

// P7.8: texts that include each other far too often come to an end.
func TestEndlessIncludes(t *testing.T) {
	if x := include(`include "t0";`, including(10, 1400, "")); x.e != api.OK || len(x.l) > 0 {
		t.Errorf("nothing, 1400 times 1400 times ..: error %d, %d tokens", x.e, len(x.l))
	}
	if x := include(`include "t0";`, including(10, 1400, "a")); x.e != api.ErrLimit || x.name != "" || x.at != 0 {
		t.Errorf("1400 times 1400 times ..: error %d in %q", x.e, x.name)
	}
	all := []api.Text{}
	for i := range 50 {
		src := ""
		for j := range 50 {
			src += ` include "` + strconv.Itoa((i+j)%50) + `";`
		}
		all = append(all, api.Text{Name: strconv.Itoa(i), Src: src})
	}
	if x := include(`include "7";`, all); x.e != api.ErrDeep || x.name != "7" || x.at != 1 {
		t.Errorf("texts in circles: error %d in %q at %d", x.e, x.name, x.at)
	}
}

// P7.8: texts by chance.
func TestRandomIncludes(t *testing.T) {
	r := rand.New(rand.NewSource(77))
	source := func(least int) string {
		src := ""
		for range r.Intn(5) {
			n := least + r.Intn(6-min(least, 5))
			if r.Intn(20) == 0 {
				n = r.Intn(6)
			}
			src += one(r, "a ", "1 ", "\"x\";", "\n", ";", "$ b\n", `include "`+strconv.Itoa(n)+`";`, ` include "`+strconv.Itoa(n)+`" ;`)
			if r.Intn(60) == 0 {
				src += one(r, "~", "include x;", "include", `include "y";`, `"`)
			}
		}
		return src
	}
	ends := map[api.Errno]int{}
	for range 5000 {
		var texts []api.Text
		for i := range 6 {
			texts = append(texts, api.Text{Name: strconv.Itoa(i), Src: source(i + 1)})
		}
		texts = append(texts, api.Text{Name: strconv.Itoa(r.Intn(6)), Src: "~"})
		if r.Intn(2) == 0 {
			slices.Reverse(texts[4:])
		}
		ends[holdInclude(t, source(0), texts)]++
	}
	if ends[api.OK] < 2000 || ends[api.ErrInclude] < 200 || ends[api.ErrByte] < 50 {
		t.Errorf("the ends of the cases: %v", ends)
	}
}

// P7.16: a text without includes is put in place; texts that no include names do not matter.
func TestPlaceOfIncludes(t *testing.T) {
	first, text, last := "a := \"b\";\n", "$ c\n1.50 [x]\n", " ; print(1);"
	l := include(first+`include "t";`+last, []api.Text{{Name: "u", Src: "~"}, {Name: "t", Src: text}, {Name: "t", Src: "y"}, {Name: "v", Src: "include"}})
	var want []api.Token
	for i, src := range []string{first, text, strings.Repeat(" ", len(`include "t";`)) + last} {
		some, _, _ := lex.Scan(src)
		for _, x := range some {
			if i == 2 {
				x.At, x.To, x.Line = x.At+len(first), x.To+len(first), x.Line+1
			}
			want = append(want, x)
		}
	}
	if l.e != api.OK || !slices.Equal(l.l, want) {
		t.Errorf("%v, error %d, want %v", l.l, l.e, want)
	}
	plain, _, _ := lex.Scan(first + text + last)
	if x := include(first+text+last, []api.Text{{Name: "u", Src: "~"}}); x.e != api.OK || !slices.Equal(x.l, plain) {
		t.Errorf("a source without includes: %v, error %d", x.l, x.e)
	}
}
