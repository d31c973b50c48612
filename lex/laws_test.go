package lex_test

import (
	"math/rand"
	"slices"
	"strings"
	"testing"

	"zermelo/api"
	"zermelo/lex"
)

// sources are some without errors, and many by chance.
func sources(seed int64) []string {
	r := rand.New(rand.NewSource(seed))
	l := []string{"", " ", "\n", "$", "$\n", "a", "a\n", "\n a $ b\n\n1.50:=\"x\"\"\"\n  $$\n", "x:=-1..007\nIF y THEN \"$\"", strings.Repeat(";\n", 6000), strings.Repeat("a ", 3000) + "$" + strings.Repeat("~", 5000)}
	for range 400 {
		l = append(l, source(r, 1+r.Intn(60)))
	}
	return l
}

// between reports whether a part of a source has blanks, line feeds and whole comments alone.
func between(part string) bool {
	lines := strings.Split(part, "\n")
	for i, line := range lines {
		if i < len(lines)-1 {
			line, _, _ = strings.Cut(line, "$")
		}
		if strings.Trim(line, " ") != "" {
			return false
		}
	}
	return true
}

// P6.8: where tokens stand, and what their bytes are alone.
func TestPositions(t *testing.T) {
	for _, src := range sources(66) {
		last := 0
		for i, x := range scanned(src) {
			if x.At < last || x.To <= x.At || x.To > len(src) || !between(src[last:x.At]) {
				t.Errorf("%s: the token %d is at %d to %d, behind %d", short(src), i, x.At, x.To, last)
				break
			}
			last = x.To
			if line, col, e := lex.Where(src, x.At); line != x.Line || col != x.Col || e != api.OK {
				t.Errorf("%s: Where of the token %d: %d, %d, want %d, %d", short(src), i, line, col, x.Line, x.Col)
			}
			if at, e := lex.Offset(src, x.Line, x.Col); at != x.At || e != api.OK {
				t.Errorf("%s: Offset of the token %d: %d, want %d", short(src), i, at, x.At)
			}
			if i < 300 {
				alone := scanned(src[x.At:x.To])
				if len(alone) != 1 || alone[0] != (api.Token{Kind: x.Kind, Text: x.Text, To: x.To - x.At, Line: 1, Col: 1}) {
					t.Errorf("%s: the token %d alone: %s", short(src), i, told(alone))
				}
			}
		}
		if !between(src[last:] + "\n") {
			t.Errorf("%s: there are more tokens behind %d", short(src), last)
		}
	}
}

// P6.9: Unquote of Quote is the string; what Spell writes is read as such a token.
func TestThereAndBack(t *testing.T) {
	hold := func(s string) {
		q, e := lex.Quote(s)
		if e != api.OK {
			return
		}
		if back, e := lex.Unquote(q); back != s || e != api.OK {
			t.Errorf("Unquote of %s: %s, error %d", short(q), short(back), e)
		}
		if l := scanned(q); len(l) != 1 || l[0].Kind != api.TkStr || l[0].Text != s {
			t.Errorf("Scan of %s: %s", short(q), told(l))
		}
	}
	words("\"$ a~", 6, hold)
	all := ""
	for b := byte(32); b <= 126; b++ {
		all += string([]byte{b})
	}
	for _, s := range []string{all, strings.Repeat(all, 10), strings.Repeat(`"`, 1000), strings.Repeat("x", 1000)} {
		hold(s)
	}
	for _, src := range sources(67)[:200] {
		for _, x := range scanned(src)[:min(50, len(scanned(src)))] {
			w, e := lex.Spell(x.Kind, x.Text)
			if l := scanned(w); e != api.OK || len(l) != 1 || !lex.Same(l, []api.Token{x}) || l[0].To != len(w) {
				t.Errorf("Spell of %s: %s, error %d", told([]api.Token{x}), short(w), e)
			}
		}
	}
}

// dressed returns the lines of a source with what changes no tokens: comments, blanks, empty lines, large letters.
func dressed(r *rand.Rand, src string) string {
	var l []string
	for _, line := range strings.Split(src, "\n") {
		for range r.Intn(3) {
			l = append(l, one(r, "", "  ", "$ nothing \"", " $"))
		}
		l = append(l, one(r, "", " ", "   ")+enlarged(r, line)+one(r, "", " ", "  ", "$", " $ a \" 1.5", "$:="))
	}
	return strings.Join(l, "\n")
}

// enlarged returns a line in which some letters are large ones, but in its strings.
func enlarged(r *rand.Rand, line string) string {
	b := []byte(line)
	within := false
	for i, c := range b {
		if c == '"' {
			within = !within
		}
		if !within && c >= 'a' && c <= 'z' && r.Intn(2) == 0 {
			b[i] = c - 'a' + 'A'
		}
	}
	return string(b)
}

// P6.11: what changes no tokens.
func TestLines(t *testing.T) {
	r := rand.New(rand.NewSource(68))
	for _, src := range sources(69) {
		other := dressed(r, src)
		if len(other) > 20000 {
			continue
		}
		if l := scanned(other); !lex.Same(l, scanned(src)) {
			t.Errorf("%s has other tokens than %s: %s", short(other), short(src), short(told(l)))
		}
	}
	if lex.Same(scanned(`"a"`), scanned(`"A"`)) {
		t.Errorf("large letters in a string stand for small ones")
	}
}

// P6.12: two sources with a line feed between them.
func TestPieces(t *testing.T) {
	all := sources(70)
	for i, a := range all {
		b := all[(7*i+3)%len(all)]
		l := scanned(a)
		for _, x := range scanned(b) {
			x.At, x.To, x.Line = x.At+len(a)+1, x.To+len(a)+1, x.Line+1+strings.Count(a, "\n")
			l = append(l, x)
		}
		if len(a)+1+len(b) > 20000 || len(l) > 6000 {
			continue
		}
		if got := scanned(a + "\n" + b); !slices.Equal(got, l) {
			t.Errorf("%s and %s: %s, want %s", short(a), short(b), short(told(got)), short(told(l)))
		}
	}
}

// changeAll changes all tokens of a list, and what its memory has behind them.
func changeAll(l []api.Token) {
	l = l[:cap(l)]
	for i := range l {
		l[i] = api.Token{Kind: -1, Text: "changed", At: -1, To: -1, Line: -1, Col: -1}
	}
}

// G6, G7: results share no memory with arguments or each other, and arguments stay as they are.
func TestMemory(t *testing.T) {
	src := "a := 1;\nb := 2;\nc := 3;"
	want := told(scanned(src))
	l := scanned(src)
	changeAll(l)
	if again := scanned(src); told(again) != want {
		t.Errorf("Scan returns %s", told(again))
	}
	l = scanned(src)
	for _, gone := range []int{0, 1, 10} {
		for at := range len(src) - gone + 1 {
			one, two := edit(src, l, at, gone, " "), edit(src, l, at, gone, " ")
			if one.e != api.OK {
				t.Fatalf("error %d", one.e)
			}
			changeAll(one.l)
			if holds, _, _ := modelled(two.src); told(two.l) != told(holds) || told(l) != want {
				t.Errorf("Edit at %d, %d shares memory", at, gone)
			}
		}
	}
	if joined, e := lex.Join(l); joined != "a:=1;b:=2;c:=3;" || e != api.OK || told(l) != want {
		t.Errorf("Join changes its tokens: %s", joined)
	}
}
