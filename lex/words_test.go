package lex_test

import (
	"slices"
	"strings"
	"testing"

	"zermelo/api"
	"zermelo/lex"
)

// P6.2: all key words and signs, increasing.
func TestKeysAndSigns(t *testing.T) {
	for _, c := range []struct {
		name string
		list func() []string
		want []string
	}{{"Keys", lex.Keys, wordList}, {"Signs", lex.Signs, signList}} {
		want := slices.Clone(c.want)
		slices.Sort(want)
		got := c.list()
		if !slices.Equal(got, want) || len(slices.Compact(want)) != len(got) {
			t.Errorf("%s: %q, want %q", c.name, got, want)
		}
		got[0] = "changed"
		if c.list()[0] == "changed" {
			t.Errorf("%s: the list is not new", c.name)
		}
	}
}

// P6.2: which strings are names, and which are key words.
func TestIsNameIsKey(t *testing.T) {
	hold := func(s string) {
		t.Helper()
		key := slices.Contains(wordList, s)
		name := nameShape.FindString(s) == s && s != "" && strings.ToLower(s) == s && len(s) <= 24 && !key
		if lex.IsName(s) != name || lex.IsKey(s) != key {
			t.Errorf("%s: IsName %v, want %v; IsKey %v, want %v", short(s), lex.IsName(s), name, lex.IsKey(s), key)
		}
	}
	for _, w := range append(slices.Clone(wordList), signList...) {
		for _, s := range []string{w, strings.ToUpper(w), w + "a", w + "_", w + " ", " " + w, w + "\n", w + "$", w + w, w + "1", "a" + w, strings.ToUpper(w[:1]) + w[1:]} {
			hold(s)
		}
	}
	for _, s := range []string{"", "x", "X", "_", "_x", "x_", "1x", "x1", "xY", "t#3", "x.y", "\"x\"", "ä", "x\x80", "x\x00", "1", "1.5", strings.Repeat("a", 24), strings.Repeat("a", 25), strings.Repeat("a", 24) + "A", strings.Repeat("a", 30000), strings.Repeat("x ", 20000)} {
		hold(s)
	}
	words("a_Z1 \n$", 4, hold)
	words("ifomr", 4, hold)
}

// P6.3: Quote, its errors and their order.
func TestQuote(t *testing.T) {
	x, quotes := strings.Repeat("x", 2000), strings.Repeat(`"`, 1001)
	for _, c := range []struct {
		s, want string
		e       api.Errno
	}{
		{"", `""`, api.OK}, {"a", `"a"`, api.OK}, {`a"b`, `"a""b"`, api.OK}, {`"`, `""""`, api.OK}, {`""`, `""""""`, api.OK}, {`\n $ ~`, `"\n $ ~"`, api.OK},
		{x[:1000], `"` + x[:1000] + `"`, api.OK}, {x[:1001], "", api.ErrLimit}, {quotes[:1000], `"` + strings.Repeat(`""`, 1000) + `"`, api.OK}, {quotes, "", api.ErrLimit},
		{"\n", "", api.ErrForm}, {"a\n", "", api.ErrForm}, {"\x1f", "", api.ErrForm}, {"\x7f", "", api.ErrForm}, {"\x00", "", api.ErrForm}, {"ä", "", api.ErrForm}, {"\xff", "", api.ErrForm},
		{x + "\t", "", api.ErrForm}, {"\n" + x, "", api.ErrForm}, {strings.Repeat("x", 30000), "", api.ErrLimit},
	} {
		if got, e := lex.Quote(c.s); got != c.want || e != c.e {
			t.Errorf("Quote of %s: %s, error %d, want %s, %d", short(c.s), short(got), e, short(c.want), c.e)
		}
	}
	for b := range 256 {
		s := "a" + string([]byte{byte(b)})
		got, e := lex.Quote(s)
		if good := b >= 32 && b <= 126; good != (e == api.OK) || !good && (e != api.ErrForm || got != "") {
			t.Errorf("Quote of %s: %s, error %d", short(s), short(got), e)
		}
	}
}

// P6.3: Unquote takes just what Quote writes.
func TestUnquote(t *testing.T) {
	x := strings.Repeat("x", 2000)
	for _, c := range []struct {
		s, want string
		e       api.Errno
	}{
		{`""`, "", api.OK}, {`"a"`, "a", api.OK}, {`"A"" $"`, `A" $`, api.OK}, {`""""`, `"`, api.OK}, {`"` + x[:1000] + `"`, x[:1000], api.OK}, {`"` + strings.Repeat(`""`, 1000) + `"`, strings.Repeat(`"`, 1000), api.OK},
		{"", "", api.ErrForm}, {`"`, "", api.ErrForm}, {`"""`, "", api.ErrForm}, {"a", "", api.ErrForm}, {"1", "", api.ErrForm}, {"+", "", api.ErrForm}, {` "a"`, "", api.ErrForm}, {`"a" `, "", api.ErrForm}, {"\"a\"\n", "", api.ErrForm}, {"\n\"a\"", "", api.ErrForm}, {`"a"$`, "", api.ErrForm}, {`"a" "b"`, "", api.ErrForm}, {`"a"b`, "", api.ErrForm},
		{"\"\n\"", "", api.ErrForm}, {"\"\t\"", "", api.ErrForm}, {"\"\x80\"", "", api.ErrForm}, {`"` + x[:1001] + `"`, "", api.ErrForm}, {`"` + strings.Repeat(`""`, 1001) + `"`, "", api.ErrForm}, {`"` + strings.Repeat(x, 11) + `"`, "", api.ErrForm},
	} {
		if got, e := lex.Unquote(c.s); got != c.want || e != c.e {
			t.Errorf("Unquote of %s: %s, error %d, want %s, %d", short(c.s), short(got), e, short(c.want), c.e)
		}
	}
	written := map[string]string{}
	words("\"a \n\t", 4, func(s string) {
		if q, e := lex.Quote(s); e == api.OK {
			written[q] = s
		}
	})
	words("\"a \n\t", 6, func(q string) {
		want, is := written[q]
		if got, e := lex.Unquote(q); got != want || is != (e == api.OK) || !is && e != api.ErrForm {
			t.Errorf("Unquote of %s: %s, error %d, want %s", short(q), short(got), e, short(want))
		}
	})
}

// spellable reports a second time whether some source has such a token.
func spellable(kind int, text string) bool {
	written := text
	if kind == api.TkStr {
		written = `"` + strings.ReplaceAll(text, `"`, `""`) + `"`
	}
	l, _, e := modelled(written)
	return e == api.OK && len(l) == 1 && l[0].Kind == kind && l[0].Text == text
}

// P6.4: how tokens are written, and which are not.
func TestSpell(t *testing.T) {
	nine, x := strings.Repeat("9", 400), strings.Repeat("x", 1100)
	texts := slices.Concat(wordList, signList, []string{
		"", " ", "a", "A", "a_1", "_", "1a", "If", "while1", "a b", "a ", " a", "a\n", "a$", "$", "t#3", strings.Repeat("a", 24), strings.Repeat("a", 25),
		"0", "1", "01", "00", "-1", "+1", "1 ", "1\n", "12", "1x", nine[:380], nine[:381], "1.5", "0.0", "1.50", "01.5", ".5", "1.", "1.0", "1.00", "0.05", "00.5", "1..2", "1.5.", "1.2.3", "-1.5",
		"1." + nine[:20], "1." + nine[:21], nine[:379] + ".0", nine[:380] + ".0", nine[:360] + "." + nine[:20], nine[:361] + "." + nine[:20],
		`"`, `""`, `"a"`, `a"b`, "\n", "\t", "\x7f", "~", "!", "ä", "\xff", x[:1000], x[:1001], strings.Repeat(`"`, 1000), strings.Repeat(`"`, 1001), strings.Repeat("x", 30000), strings.Repeat(" ", 20000),
		"::=", "* *", "* ", " *", "===", "->>", "…",
	})
	for kind := -2; kind <= 9; kind++ {
		for _, text := range texts {
			want, wantE := "", api.ErrForm
			switch {
			case kind < 1 || kind > 6:
				wantE = api.ErrArg
			case spellable(kind, text):
				want, wantE = text, api.OK
				if kind == api.TkStr {
					want = `"` + strings.ReplaceAll(text, `"`, `""`) + `"`
				}
			}
			if got, e := lex.Spell(kind, text); got != want || e != wantE {
				t.Errorf("Spell of %d, %s: %s, error %d, want %s, %d", kind, short(text), short(got), e, short(want), wantE)
			}
		}
	}
	for _, kind := range []int{-1 << 63, 1<<63 - 1, 0, 7} {
		if _, e := lex.Spell(kind, "a"); e != api.ErrArg {
			t.Errorf("Spell of the kind %d: error %d", kind, e)
		}
	}
	words("a1.0\" =", 4, func(text string) {
		for kind := 1; kind <= 6; kind++ {
			if _, e := lex.Spell(kind, text); (e == api.OK) != spellable(kind, text) || e != api.OK && e != api.ErrForm {
				t.Errorf("Spell of %d, %s: error %d", kind, short(text), e)
			}
		}
	})
}
