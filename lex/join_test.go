package lex_test

import (
	"math/rand"
	"strings"
	"testing"

	"zermelo/api"
	"zermelo/lex"
)

// joined is Join told a second time, as the chapter says it: each source that is made is looked at as a whole.
func joined(l []api.Token) string {
	src := ""
	for i, x := range l {
		w := x.Text
		if x.Kind == api.TkStr {
			w = `"` + strings.ReplaceAll(w, `"`, `""`) + `"`
		}
		found, _, e := modelled(src + w)
		if i > 0 && !(e == api.OK && told(bare(found)) == told(bare(l[:i+1]))) {
			src += " "
		}
		src += w
	}
	return src
}

// holdJoin holds Join against the second telling, and looks whether the tokens come back (P6.9).
func holdJoin(t *testing.T, l []api.Token) {
	t.Helper()
	src, e := lex.Join(l)
	if want := joined(l); src != want || e != api.OK {
		t.Errorf("Join of %s: %s, error %d, want %s", short(told(l)), short(src), e, short(want))
		return
	}
	back, _, e := lex.Scan(src)
	if e != api.OK || !lex.Same(back, l) {
		t.Errorf("Scan of %s: %s, error %d, want %s", short(src), short(told(back)), e, short(told(l)))
	}
	if again, e := lex.Join(back); again != src || e != api.OK {
		t.Errorf("Join of the tokens of %s: %s, error %d", short(src), short(again), e)
	}
}

// P6.6: the examples, and other pairs of tokens that stand close.
func TestJoin(t *testing.T) {
	for src, want := range map[string]string{
		"a  := - - b": "a:=--b", "* *": "* *", "1 . 2": "1. 2", "if x": "if x", "1 x": "1x",
		"": "", "  a  ": "a", "x 1": "x 1", "x_ 1.5": "x_ 1.5", "1 2": "1 2", "1.5 2": "1.5 2", "1 2.5": "1 2.5", "1 .. 2": "1..2", "1 . . 2": "1. .2", "1 . x": "1.x", "x . 2": "x.2", "1.5 . 2": "1.5.2", "1 . 2 . 3": "1. 2. 3", "1 . 2.5": "1. 2.5", "1 .. . 2": "1...2", "1.0 .. 2": "1.0..2",
		`"a" "b"`: `"a" "b"`, `"" ""`: `"" ""`, `"a" b`: `"a"b`, `a "b"`: `a"b"`, ": =": ": =", ":= =": ":==", "- - > =": "-- > =", "- >": "- >", "< =": "< =", "/ =": "/ =", "** *": "***", "* **": "* **", "* * *": "* * *", ". ..": ". ..", ".. .": "...",
		"X Y": "x y", "1.50 007": "1.5 7", "a $ b\n c": "a c", "if\nX then": "if x then", "a ( b ) [ 1 ] { }": "a(b)[1]{}",
	} {
		if got, e := lex.Join(scanned(src)); got != want || e != api.OK {
			t.Errorf("Join of the tokens of %s: %s, error %d, want %s", short(src), short(got), e, short(want))
		}
	}
	long := strings.Repeat("k", 20)
	holdJoin(t, []api.Token{{Kind: api.TkName, Text: long}, {Kind: api.TkName, Text: long}})
	nine := strings.Repeat("9", 300)
	holdJoin(t, []api.Token{{Kind: api.TkInt, Text: nine}, {Kind: api.TkSign, Text: "."}, {Kind: api.TkInt, Text: nine}, {Kind: api.TkInt, Text: nine}})
}

// P6.6, P6.9: all short lists of some tokens.
func TestJoinOfShortLists(t *testing.T) {
	some := scanned(`x if 1 1.5 0.0 "a" "" . .. * ** / = /= : := < > - -> ; (`)
	index := ""
	for i := range some {
		index += string([]byte{byte(i)})
	}
	words(index, 3, func(which string) {
		var l []api.Token
		for i := range len(which) {
			l = append(l, some[which[i]])
		}
		holdJoin(t, l)
	})
}

// P6.6, P6.9: lists by chance, whatever their positions say.
func TestJoinOfRandomLists(t *testing.T) {
	r := rand.New(rand.NewSource(63))
	for range 400 {
		var l []api.Token
		for range r.Intn(30) {
			x := token(r)
			x.At, x.To, x.Line, x.Col = r.Intn(9)-4, r.Intn(9)-4, r.Intn(3), -r.Intn(3)
			l = append(l, x)
		}
		holdJoin(t, l)
		holdJoin(t, scanned(source(r, 30)))
	}
}

// many returns a list that has a token so many times.
func many(x api.Token, times int) []api.Token {
	l := make([]api.Token, times)
	for i := range l {
		l[i] = x
	}
	return l
}

// P6.6: the error of Spell for the first token that has one, then too many tokens, or bytes.
func TestErrorsOfJoin(t *testing.T) {
	semicolon, name := api.Token{Kind: api.TkSign, Text: ";"}, api.Token{Kind: api.TkName, Text: "ab"}
	kind, form := api.Token{Kind: 7, Text: "x"}, api.Token{Kind: api.TkName, Text: "end"}
	str := api.Token{Kind: api.TkStr, Text: strings.Repeat("s", 997)} // 999 bytes, and a blank ahead of it
	for i, c := range []struct {
		l     []api.Token
		bytes int
		e     api.Errno
	}{
		{[]api.Token{kind}, 0, api.ErrArg}, {[]api.Token{form}, 0, api.ErrForm}, {[]api.Token{name, form, kind}, 0, api.ErrForm}, {[]api.Token{name, kind, form}, 0, api.ErrArg}, {[]api.Token{{}}, 0, api.ErrArg},
		{[]api.Token{{Kind: api.TkStr, Text: strings.Repeat("x", 1001)}}, 0, api.ErrForm}, {[]api.Token{{Kind: api.TkInt, Text: "07"}}, 0, api.ErrForm}, {[]api.Token{{Kind: api.TkSign}}, 0, api.ErrForm},
		{many(semicolon, 6000), 6000, api.OK}, {many(semicolon, 6001), 0, api.ErrLimit}, {append(many(semicolon, 6500), form), 0, api.ErrForm}, {append(many(semicolon, 6500), kind, form), 0, api.ErrArg},
		{many(name, 6000), 17999, api.OK}, {many(str, 20), 19999, api.OK}, {append(many(str, 20), semicolon), 20000, api.OK}, {append(many(str, 20), semicolon, semicolon), 0, api.ErrLimit}, {append(many(str, 20), api.Token{Kind: api.TkStr}), 0, api.ErrLimit},
		{many(str, 21), 0, api.ErrLimit}, {many(str, 100), 0, api.ErrLimit}, {append(many(str, 100), form), 0, api.ErrForm}, {append(many(str, 7000), kind), 0, api.ErrArg}, {many(str, 6001), 0, api.ErrLimit},
	} {
		src, e := lex.Join(c.l)
		if len(src) != c.bytes || e != c.e {
			t.Errorf("%d: Join has %d bytes, error %d, want %d, %d", i, len(src), e, c.bytes, c.e)
		}
		if l, _, e := lex.Scan(src); e != api.OK || c.e == api.OK && !lex.Same(l, c.l) {
			t.Errorf("%d: Scan of what Join returns: error %d", i, e)
		}
	}
}

// P6.6: Same looks at Kinds and Texts alone, of any tokens.
func TestSame(t *testing.T) {
	x, y := api.Token{Kind: 1, Text: "x"}, api.Token{Kind: 1, Text: "y"}
	moved := api.Token{Kind: 1, Text: "x", At: 5, To: 6, Line: 7, Col: 8}
	odd := api.Token{Kind: -9, Text: "\xff"}
	for i, c := range []struct {
		a, b []api.Token
		want bool
	}{
		{nil, nil, true}, {nil, []api.Token{}, true}, {nil, []api.Token{{}}, false}, {[]api.Token{x}, []api.Token{moved}, true}, {[]api.Token{x}, []api.Token{y}, false}, {[]api.Token{x}, []api.Token{{Kind: 2, Text: "x"}}, false},
		{[]api.Token{x, y}, []api.Token{x}, false}, {[]api.Token{x}, []api.Token{x, y}, false}, {[]api.Token{x, y}, []api.Token{y, x}, false}, {[]api.Token{x, y, odd}, []api.Token{moved, y, odd}, true}, {[]api.Token{x, odd}, []api.Token{x, {Kind: -9, Text: "\xfe"}}, false},
		{[]api.Token{{Kind: 3, Text: "1"}}, []api.Token{{Kind: 3, Text: "01"}}, false}, {many(x, 7000), many(moved, 7000), true}, {many(x, 7000), append(many(x, 6999), y), false},
	} {
		if lex.Same(c.a, c.b) != c.want || lex.Same(c.b, c.a) != c.want {
			t.Errorf("%d: Same of %s and %s is not %v", i, short(told(c.a)), short(told(c.b)), c.want)
		}
	}
}
