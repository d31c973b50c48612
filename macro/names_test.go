package macro_test

import (
	"math/rand"
	"slices"
	"strconv"
	"strings"
	"testing"

	"zermelo/api"
	"zermelo/macro"
)

// P7.7: which strings are fresh names.
func TestFresh(t *testing.T) {
	long := strings.Repeat("a", 24)
	for s, n := range map[string]int{
		"t#12": 12, "t#1": 1, "t#9": 9, "t#10": 10, "t#999": 999, "t#1000": 1000, "t#5999": 5999, "t#6000": 6000, "t#6001": 0, "t#7000": 0, "t#9999": 0, "t#10000": 0, "t#60000": 0,
		"t#0": 0, "t#00": 0, "t#01": 0, "t#-1": 0, "t#+1": 0, "t#1 ": 0, "t# 1": 0, " t#1": 0, "t #1": 0, "t#1a": 0, "t#a": 0, "t#1_0": 0, "t#0x1": 0, "t#1.0": 0, "t#1e1": 0, "t#": 0, "t": 0, "#1": 0, "#": 0, "": 0, "t##1": 0, "t#1#2": 0, "t1": 0, "12": 0,
		"if#1": 0, "iff#1": 1, "T#1": 0, "tT#1": 0, "1t#1": 0, "_t#1": 0, "t_1#2": 2, "t.#1": 0, "\"t\"#1": 0, "t#\xc2\xb2": 0, "t#1\n": 0, "t#1\x00": 0, long + "#6000": 6000, long + "a#1": 0, "t#" + strings.Repeat("9", 100): 0, "t#18446744073709551617": 0,
	} {
		got, m, is := macro.Fresh(s)
		want := ""
		if n > 0 {
			want, _, _ = strings.Cut(s, "#")
		}
		if got != want || m != n || is != (n > 0) {
			t.Errorf("Fresh of %q: %q, %d, %v, want %q, %d", s, got, m, is, want, n)
		}
	}
	alphabet := "a_0169#I"
	var extend func(s string)
	extend = func(s string) {
		got, n, is := macro.Fresh(s)
		if want, m, wantIs := freshModel(s); got != want || n != m || is != wantIs {
			t.Errorf("Fresh of %q: %q, %d, %v, want %q, %d, %v", s, got, n, is, want, m, wantIs)
		}
		for i := 0; i < len(alphabet) && len(s) < 6; i++ {
			extend(s + alphabet[i:i+1])
		}
	}
	extend("")
	for n := -10; n <= 6010; n++ {
		got, m, is := macro.Fresh("x#" + strconv.Itoa(n))
		if right := n >= 1 && n <= 6000; is != right || is && (got != "x" || m != n) {
			t.Errorf("Fresh of x#%d: %s, %d, %v", n, got, m, is)
		}
	}
}

// P7.7: Clean, case by case.
func TestClean(t *testing.T) {
	f1 := func(kind int) api.Token { return api.Token{Kind: kind, Text: "f1"} }
	for _, c := range []struct {
		l    []api.Token
		want string
	}{
		{toks("t#1 := f1 ; t#2"), "f2 := f1 ; f3"}, {nil, ""}, {toks("a f1"), "a f1"}, {toks("t#1 t#2 t#1 u#2 u#1 t#2"), "f1 f2 f1 f3 f4 f2"}, {toks("t#1 t#2 t#3 f2"), "f1 f3 f4 f2"}, {toks("f1 f3 t#5 t#4 t#5"), "f1 f3 f2 f4 f2"}, {toks("f#1 f#2 f1 f01"), "f2 f3 f1 f01"},
		{[]api.Token{f1(api.TkKey), name("t#1")}, "f1 f2"}, {[]api.Token{f1(api.TkName), name("t#1")}, "f1 f2"}, {[]api.Token{f1(api.TkStr), name("t#1")}, "f1 f1"}, {[]api.Token{f1(api.TkSign), name("t#1")}, "f1 f1"}, {[]api.Token{f1(api.TkInt), name("t#1"), f1(0)}, "f1 f1 f1"},
		{[]api.Token{str("t#1"), key("t#1"), sign("t#1"), name("t#1"), name("t#0"), name("t#01"), name("if#1")}, "t#1 t#1 t#1 f1 t#0 t#01 if#1"},
	} {
		l, e := macro.Clean(c.l)
		if text(l) != c.want || e != api.OK || !slices.Equal(l, cleanModel(c.l)) {
			t.Errorf("Clean of %s: %s, error %d, want %s", text(c.l), text(l), e, c.want)
		}
	}
	l, e := macro.Clean([]api.Token{{Kind: api.TkName, Text: "t#1", At: 1, To: 2, Line: 3, Col: 4}, {Kind: -1, At: 5}})
	if e != api.OK || !slices.Equal(l, []api.Token{{Kind: api.TkName, Text: "f1", At: 1, To: 2, Line: 3, Col: 4}, {Kind: -1, At: 5}}) {
		t.Errorf("Clean: %v, error %d", l, e)
	}
	if l, e := macro.Clean(many(name("t#1"), 6001)); e != api.ErrLimit || len(l) > 0 {
		t.Errorf("Clean of 6001 tokens: %d, error %d", len(l), e)
	}
	var all []api.Token
	for i := range 6000 {
		all = append(all, name("t#"+strconv.Itoa(6000-i)))
	}
	if l, e := macro.Clean(all); e != api.OK || l[5999] != name("f6000") || l[0] != name("f1") {
		t.Errorf("Clean of 6000 fresh names: error %d", e)
	}
}

// P7.15: what Clean keeps, and what it does not.
func TestLawsOfClean(t *testing.T) {
	r := rand.New(rand.NewSource(76))
	for range 3000 {
		var l []api.Token
		for range r.Intn(20) {
			l = append(l, api.Token{Kind: one(r, api.TkName, api.TkName, api.TkName, api.TkKey, api.TkStr), Text: one(r, "t", "u", "f", "f1", "f2") + one(r, "", "", "#1", "#2", "#3", "2"), At: r.Intn(9)})
		}
		c, e := macro.Clean(l)
		if want := cleanModel(l); e != api.OK || !slices.Equal(c, want) {
			t.Errorf("Clean of %s: %s, error %d, want %s", text(l), text(c), e, text(want))
			continue
		}
		for i := range l {
			_, _, was := macro.Fresh(l[i].Text)
			was = was && l[i].Kind == api.TkName
			if _, _, is := macro.Fresh(c[i].Text); c[i].Kind == api.TkName && is || !was && c[i] != l[i] {
				t.Errorf("Clean of %s: %s", text(l), text(c))
			}
			for j := range l {
				if named := l[i].Kind == api.TkName && l[j].Kind == api.TkName; named && (l[i].Text == l[j].Text) != (c[i].Text == c[j].Text) {
					t.Errorf("Clean of %s: %s", text(l), text(c))
				}
			}
		}
		if again, e := macro.Clean(c); e != api.OK || !slices.Equal(again, c) {
			t.Errorf("Clean of %s: %s", text(c), text(again))
		}
	}
}
