package lex_test

import (
	"math"
	"math/rand"
	"slices"
	"strings"
	"testing"

	"zermelo/api"
	"zermelo/lex"
)

// edited is what Edit returns.
type edited struct {
	src           string
	l             []api.Token
	ahead, behind int
	at            int
	e             api.Errno
}

// edit carries out Edit.
func edit(src string, l []api.Token, at, gone int, put string) edited {
	var x edited
	x.src, x.l, x.ahead, x.behind, x.at, x.e = lex.Edit(src, l, at, gone, put)
	return x
}

// zero reports whether there is nothing but an error.
func (x edited) zero() bool { return x.src == "" && len(x.l) == 0 && x.ahead == 0 && x.behind == 0 }

// most returns how many of the tokens are alike, one after the other.
func most(a, b []api.Token, which func(l []api.Token, i int) api.Token, alike func(a, b api.Token) bool) int {
	for i := range min(len(a), len(b)) {
		if !alike(which(a, i), which(b, i)) {
			return i
		}
	}
	return min(len(a), len(b))
}

// holdEdit holds Edit of a source without errors against the model (P6.7, P6.10).
func holdEdit(t *testing.T, src string, at, gone int, put string) {
	t.Helper()
	l := scanned(src)
	before := slices.Clone(l)
	x := edit(src, l, at, gone, put)
	if !slices.Equal(l, before) {
		t.Errorf("Edit changes its tokens")
	}
	want := src[:at] + put + src[at+gone:]
	wantL, wantAt, wantE := modelled(want)
	if wantE != api.OK {
		if x.e != wantE || x.at != wantAt || !x.zero() {
			t.Errorf("Edit of %s at %d, %d, %s: error %d at %d, want %d at %d", short(src), at, gone, short(put), x.e, x.at, wantE, wantAt)
		}
		return
	}
	if x.e != api.OK || x.at != 0 || x.src != want || !slices.Equal(x.l, wantL) {
		t.Errorf("Edit of %s at %d, %d, %s: %s, error %d at %d; tokens %s, want %s", short(src), at, gone, short(put), short(x.src), x.e, x.at, short(told(x.l)), short(told(wantL)))
		return
	}
	ahead := most(l, wantL, func(l []api.Token, i int) api.Token { return l[i] }, func(a, b api.Token) bool { return a == b })
	behind := most(l[ahead:], wantL[ahead:], func(l []api.Token, i int) api.Token { return l[len(l)-1-i] }, func(a, b api.Token) bool { return a.Kind == b.Kind && a.Text == b.Text })
	if x.ahead != ahead || x.behind != behind {
		t.Errorf("Edit of %s at %d, %d, %s: %d and %d stay, want %d and %d", short(src), at, gone, short(put), x.ahead, x.behind, ahead, behind)
	}
	holdLines(t, src, at, gone, x)
}

// holdLines looks whether the tokens of the lines that an edit of a source does not concern stay (P6.10).
func holdLines(t *testing.T, src string, at, gone int, x edited) {
	t.Helper()
	first, last := 1+strings.Count(src[:at], "\n"), 1+strings.Count(src[:at+gone], "\n")
	bytes, lines := len(x.src)-len(src), strings.Count(x.src, "\n")-strings.Count(src, "\n")
	var above, below []api.Token
	for _, o := range scanned(src) {
		if o.Line < first {
			above = append(above, o)
		}
		if o.Line > last {
			o.At, o.To, o.Line = o.At+bytes, o.To+bytes, o.Line+lines
			below = append(below, o)
		}
	}
	outer := len(above) + len(below)
	if len(x.l) < outer || !slices.Equal(x.l[:len(above)], above) || !slices.Equal(x.l[len(x.l)-len(below):], below) || x.ahead < len(above) || x.ahead+x.behind < outer {
		t.Errorf("Edit of %s at %d, %d to %s: %d and %d stay, %d of the lines ahead and %d of those behind", short(src), at, gone, short(x.src), x.ahead, x.behind, len(above), len(below))
	}
}

// P6.7: what an edit does, case by case.
func TestEdit(t *testing.T) {
	for _, c := range []struct {
		src           string
		at, gone      int
		put, want     string
		ahead, behind int
	}{
		{"a := 1;\nb := 2;\nc := 3;", 13, 1, `"x"`, "a := 1;\nb := \"x\";\nc := 3;", 6, 5},
		{"", 0, 0, "", "", 0, 0},
		{"", 0, 0, "a b", "a b", 0, 0},
		{"a b", 0, 3, "", "", 0, 0},
		{"a b", 3, 0, "", "a b", 2, 0},
		{"a b", 1, 0, " ", "a  b", 1, 1},
		{"a b", 1, 1, "", "ab", 0, 0},
		{"ab", 1, 0, " ", "a b", 0, 0},
		{"ab cd", 1, 3, "", "ad", 0, 0},
		{"a;", 0, 0, "\n", "\na;", 0, 2},
		{"a a a", 0, 2, "", "a a", 2, 0},
		{"a a", 0, 0, "a ", "a a a", 2, 0},
		{"a b", 0, 0, "a ", "a a b", 1, 1},
		{"x\nx\nx", 0, 2, "", "x\nx", 2, 0},
		{"a\nb\nc", 1, 1, " ", "a b\nc", 1, 2},
		{"a\nb\nc", 2, 1, "x\ny\nz", "a\nx\ny\nz\nc", 1, 1},
		{"a\nb\nc", 1, 3, "", "ac", 0, 0},
		{"a $ b\nc", 2, 1, "", "a  b\nc", 1, 1},
		{"a b\nc", 2, 0, "$", "a $b\nc", 1, 1},
		{"1 . 2", 1, 1, "", "1. 2", 1, 2},
		{"1. 2", 2, 1, "", "1.2", 0, 0},
		{"A b", 0, 1, "a", "a b", 2, 0},
		{"1.5", 3, 0, "0", "1.50", 0, 1},
		{`a "b" c`, 3, 1, `$"" `, `a "$"" " c`, 1, 1},
	} {
		x := edit(c.src, scanned(c.src), c.at, c.gone, c.put)
		if x.src != c.want || x.ahead != c.ahead || x.behind != c.behind || x.at != 0 || x.e != api.OK {
			t.Errorf("Edit of %s at %d, %d, %s: %s, %d, %d, error %d at %d, want %s, %d, %d", short(c.src), c.at, c.gone, short(c.put), short(x.src), x.ahead, x.behind, x.e, x.at, short(c.want), c.ahead, c.behind)
		}
		holdEdit(t, c.src, c.at, c.gone, c.put)
	}
}

// P6.7: all errors, in their order.
func TestErrorsOfEdit(t *testing.T) {
	src := "a := 1;\nb := 2;"
	l := scanned(src)
	large := strings.Repeat(" ", 20001)
	line := func(x api.Token) api.Token { x.Line++; return x }
	text := func(x api.Token) api.Token { x.Text += "x"; return x }
	changed := func(i int, f func(api.Token) api.Token) []api.Token {
		c := slices.Clone(l)
		c[i] = f(c[i])
		return c
	}
	for i, c := range []struct {
		src      string
		l        []api.Token
		at, gone int
		put      string
		wantAt   int
		e        api.Errno
	}{
		{large, nil, 0, 0, "", 0, api.ErrLimit}, {large, l, -1, 0, "", 0, api.ErrLimit}, {large, nil, 0, 20001, "", 0, api.ErrLimit},
		{src, l, -1, 0, "", 0, api.ErrArg}, {src, l, 0, -1, "", 0, api.ErrArg}, {src, l, 16, 0, "", 0, api.ErrArg}, {src, l, 15, 1, "", 0, api.ErrArg}, {src, l, 3, 13, "", 0, api.ErrArg}, {src, l, math.MaxInt, math.MaxInt, "", 0, api.ErrArg}, {src, l, 1, math.MaxInt, "", 0, api.ErrArg}, {src, l, math.MinInt, 0, "", 0, api.ErrArg}, {src, l, 5, math.MinInt, "", 0, api.ErrArg}, {src, nil, -1, 0, "\t", 0, api.ErrArg}, {"\t", nil, 2, 0, "", 0, api.ErrArg},
		{src, nil, 0, 0, "", 0, api.ErrForm}, {src, l[1:], 0, 0, "", 0, api.ErrForm}, {src, l[:7], 0, 0, "", 0, api.ErrForm}, {src, append(slices.Clone(l), l[7]), 0, 0, "", 0, api.ErrForm}, {src, changed(3, line), 0, 0, "", 0, api.ErrForm}, {src, changed(0, text), 0, 0, "", 0, api.ErrForm}, {src, bare(l), 0, 0, "", 0, api.ErrForm}, {src, nil, 0, 15, "", 0, api.ErrForm}, {"", l, 0, 0, "", 0, api.ErrForm},
		{src, nil, 0, 0, "\t", 0, api.ErrForm}, {src, l[1:], 0, 0, large, 0, api.ErrForm}, {"a \t", nil, 2, 1, "", 0, api.ErrForm}, {"a \t", scanned("a"), 2, 1, "", 0, api.ErrForm},
		{src, l, 0, 0, large, 0, api.ErrLimit}, {src, l, 15, 0, strings.Repeat("!", 19986), 0, api.ErrLimit}, {src, l, 15, 0, strings.Repeat(" ", 19985), 0, api.OK}, {src, l, 0, 15, large[:20000], 0, api.OK},
		{src, l, 13, 1, `"`, 13, api.ErrQuote}, {src, l, 8, 0, "!", 8, api.ErrByte}, {src, l, 1, 0, "\n\n\"\t\"", 4, api.ErrByte}, {src, l, 15, 0, "$ \x80", 17, api.ErrByte}, {src, l, 8, 1, strings.Repeat("b", 25), 8, api.ErrLong}, {src, l, 1, 0, strings.Repeat("b", 24), 0, api.ErrLong}, {src, l, 0, 15, "a\n\"", 2, api.ErrQuote},
	} {
		x := edit(c.src, c.l, c.at, c.gone, c.put)
		if x.e != c.e || x.at != c.wantAt || c.e != api.OK && !x.zero() {
			t.Errorf("%d: error %d at %d, want %d at %d; %s", i, x.e, x.at, c.e, c.wantAt, short(x.src))
		}
	}
}

// P6.7: where the token too many stands: in a line that is changed, or behind.
func TestEditOfManyTokens(t *testing.T) {
	src := strings.Repeat(";;\n", 3000)
	for _, c := range []struct {
		at, gone int
		put      string
	}{
		{0, 0, "x"}, {0, 0, "x "}, {4500, 0, "a\nb\n\n"}, {9000, 0, "a"}, {8999, 0, "a"}, {9000, 0, " $ a"}, {9000, 0, "!"}, {0, 0, "x !"}, {9000, 0, `"`}, {9000, 0, "\"\t\""}, {8998, 2, "\"\t\""}, {8998, 1, "\"\t\""}, {9000, 0, strings.Repeat("a", 25)},
		{0, 2, "x;y;z"}, {0, 3000, ""}, {0, 3000, strings.Repeat("z ", 4000)}, {3000, 1, ""}, {3000, 1, "1.5"}, {0, 9000, strings.Repeat("#", 6001)}, {0, 9000, strings.Repeat("#", 6000)},
	} {
		holdEdit(t, src, c.at, c.gone, c.put)
	}
}

// P6.7, P6.10: all small edits of some sources, and edits by chance.
func TestRandomEdits(t *testing.T) {
	puts := []string{"", " ", "\n", "a", "1", ".", `"`, "$", "x\ny", "\t", `"b"`, "/", ":="}
	for _, src := range []string{"a.1 b\n\"c\"$d\n\n1.5:=x", "$a\n\"$\"\nb", "a\na\na\na", "1 . 2\n* *", `a"b""c"d` + "\n;"} {
		for at := range len(src) + 1 {
			for gone := range len(src) - at + 1 {
				for _, put := range puts {
					holdEdit(t, src, at, gone, put)
				}
			}
		}
	}
	r := rand.New(rand.NewSource(64))
	for range 3000 {
		src := source(r, 40)
		at := r.Intn(len(src) + 1)
		gone := r.Intn(min(len(src)-at, 1+r.Intn(30)) + 1)
		put := ""
		for range r.Intn(4) {
			put += piece(r)
		}
		if r.Intn(20) == 0 {
			put += one(r, "\t", `"`, "_")
		}
		holdEdit(t, src, at, gone, put)
	}
}

// P6.10: edits one after the other go on with what Edit has returned.
func TestChainsOfEdits(t *testing.T) {
	r := rand.New(rand.NewSource(65))
	for range 40 {
		src, l := "", []api.Token(nil)
		for range 60 {
			at := r.Intn(len(src) + 1)
			gone := r.Intn(min(len(src)-at, 6) + 1)
			x := edit(src, l, at, gone, piece(r))
			if x.e == api.ErrForm || x.e == api.ErrArg {
				t.Fatalf("error %d", x.e)
			}
			if x.e == api.OK {
				src, l = x.src, x.l
			}
		}
		if want, _, _ := modelled(src); !slices.Equal(l, want) {
			t.Errorf("%s has the tokens %s", short(src), short(told(l)))
		}
	}
}
