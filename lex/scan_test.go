package lex_test

import (
	"math/rand"
	"slices"
	"strings"
	"testing"

	"zermelo/api"
	"zermelo/lex"
)

// holdScan holds Scan against the model.
func holdScan(t *testing.T, src string) {
	t.Helper()
	l, at, e := lex.Scan(src)
	wantL, wantAt, wantE := modelled(src)
	if !slices.Equal(l, wantL) || at != wantAt || e != wantE {
		t.Errorf("Scan of %s: error %d at %d, want %d at %d; tokens %s, want %s", short(src), e, at, wantE, wantAt, short(told(l)), short(told(wantL)))
	}
}

// P6.1: the examples of the chapter, and each sentence about tokens.
func TestTokens(t *testing.T) {
	for _, c := range []struct{ src, want string }{
		{"Ab:=1..2$x", "name ab 0-2 1:1, sign := 2-4 1:3, int 1 4-5 1:5, sign .. 5-7 1:6, int 2 7-8 1:8"},
		{`007.50 "a""b"`, `dec 7.5 0-6 1:1, str a"b 7-13 1:8`},
		{"", ""},
		{" \n $ a\n$", ""},
		{"\n\n  x\n y", "name x 4-5 3:3, name y 7-8 4:2"},
		{"$ \"\n\"$\"", "str $ 4-7 2:1"},
		{"WHILE while_ whil", "key while 0-5 1:1, name while_ 6-12 1:7, name whil 13-17 1:14"},
		{"a1_B2__1a", "name a1_b2__1a 0-9 1:1"},
		{"1a", "int 1 0-1 1:1, name a 1-2 1:2"},
		{"1.a.5", "int 1 0-1 1:1, sign . 1-2 1:2, name a 2-3 1:3, sign . 3-4 1:4, int 5 4-5 1:5"},
		{"1.2.3", "dec 1.2 0-3 1:1, sign . 3-4 1:4, int 3 4-5 1:5"},
		{"1...2", "int 1 0-1 1:1, sign .. 1-3 1:2, sign . 3-4 1:4, int 2 4-5 1:5"},
		{"1.", "int 1 0-1 1:1, sign . 1-2 1:2"},
		{"1 .5", "int 1 0-1 1:1, sign . 2-3 1:3, int 5 3-4 1:4"},
		{"00 0.00 000.500", "int 0 0-2 1:1, dec 0.0 3-7 1:4, dec 0.5 8-15 1:9"},
		{`"""" "" "a"""`, `str " 0-4 1:1, str  5-7 1:6, str a" 8-13 1:9`},
		{"***/=->=:==<=>", "sign ** 0-2 1:1, sign * 2-3 1:3, sign /= 3-5 1:4, sign -> 5-7 1:6, sign = 7-8 1:8, sign := 8-10 1:9, sign = 10-11 1:11, sign <= 11-13 1:12, sign > 13-14 1:14"},
	} {
		l, at, e := lex.Scan(c.src)
		if told(l) != c.want || at != 0 || e != api.OK {
			t.Errorf("Scan of %s: %s, want %s; error %d at %d", short(c.src), told(l), c.want, e, at)
		}
		holdScan(t, c.src)
	}
}

// P6.1: each key word and each sign is a token, in small and large letters.
func TestScanOfWords(t *testing.T) {
	for _, w := range wordList {
		for _, src := range []string{w, strings.ToUpper(w), strings.ToUpper(w[:1]) + w[1:]} {
			if l := scanned(src); len(l) != 1 || l[0] != (api.Token{Kind: api.TkKey, Text: w, To: len(w), Line: 1, Col: 1}) {
				t.Errorf("Scan of %s: %v", src, l)
			}
		}
		for _, src := range []string{w + "_", w + "1", "z" + w} {
			if l := scanned(src); len(l) != 1 || l[0].Kind != api.TkName || l[0].Text != src {
				t.Errorf("Scan of %s: %v", src, l)
			}
		}
	}
	for _, w := range signList {
		if l := scanned(w); len(l) != 1 || l[0] != (api.Token{Kind: api.TkSign, Text: w, To: len(w), Line: 1, Col: 1}) {
			t.Errorf("Scan of %s: %v", w, l)
		}
	}
}

// P6.1: errors, with their positions.
func TestErrors(t *testing.T) {
	a, nine, zero, x := strings.Repeat("a", 30), strings.Repeat("9", 400), strings.Repeat("0", 400), strings.Repeat("x", 1100)
	full := strings.Repeat(";", 6000)
	for _, c := range []struct {
		src string
		at  int
		e   api.Errno
	}{
		// Wrong bytes.
		{`x "a`, 2, api.ErrQuote}, {"a!", 1, api.ErrByte}, {"a _", 2, api.ErrByte}, {"\t", 0, api.ErrByte}, {"a\r\n", 1, api.ErrByte}, {"\x00", 0, api.ErrByte}, {"a\x7f", 1, api.ErrByte}, {"ä", 0, api.ErrByte}, {"x\xff", 1, api.ErrByte},
		{"$ ok\n$ \t", 7, api.ErrByte}, {"$\x80", 1, api.ErrByte}, {"\"a\tb\"", 2, api.ErrByte}, {"\"a\"\"\x80b\"", 4, api.ErrByte},
		// Strings that do not end.
		{`"`, 0, api.ErrQuote}, {"\"a\n\"", 0, api.ErrQuote}, {`"a""`, 0, api.ErrQuote}, {`"""`, 0, api.ErrQuote}, {`"a" "b`, 4, api.ErrQuote}, {`"a"""b`, 0, api.OK}, {"\"a\t", 0, api.ErrQuote}, {"\"\t\n\"", 0, api.ErrQuote}, {`"` + x, 0, api.ErrQuote}, {`"a$"b"`, 5, api.ErrQuote},
		// What is too long.
		{a[:24], 0, api.OK}, {" " + a[:25], 1, api.ErrLong}, {a[:23] + "_1", 0, api.ErrLong},
		{nine[:380], 0, api.OK}, {nine[:381], 0, api.ErrLong}, {zero[:380], 0, api.OK}, {zero[:381], 0, api.ErrLong},
		{nine[:379] + ".5", 0, api.OK}, {nine[:380] + ".0", 0, api.ErrLong}, {"1." + zero[:379], 0, api.OK}, {"1." + zero[:380], 0, api.ErrLong}, {zero[:190] + "." + zero[:190], 0, api.OK}, {zero[:190] + "." + zero[:191], 0, api.ErrLong},
		{"1." + nine[:20], 0, api.OK}, {"1." + nine[:21], 0, api.ErrLong}, {"1." + nine[:20] + zero[:20], 0, api.OK}, {"1." + zero[:20] + "1", 0, api.ErrLong}, {"1." + zero[:19] + "1000", 0, api.OK},
		{`"` + x[:1000] + `"`, 0, api.OK}, {`"` + x[:1001] + `"`, 0, api.ErrLong}, {`"` + strings.Repeat(`""`, 1000) + `"`, 0, api.OK}, {`a "` + strings.Repeat(`""`, 1001) + `"`, 2, api.ErrLong},
		{"\"" + x[:1001] + "\t\"", 0, api.ErrLong}, {"\"\t" + x[:1001] + "\"", 0, api.ErrLong}, {"\"" + x[:999] + "\t\"", 1000, api.ErrByte}, {"\"" + x[:1000] + "\t\"", 0, api.ErrLong},
		// The error at the least position counts.
		{a + "!", 0, api.ErrLong}, {"!" + a, 0, api.ErrByte}, {"a\n" + a + "\n\"", 2, api.ErrLong}, {"\"\t\" \"", 1, api.ErrByte}, {"1." + nine[:21] + "\t", 0, api.ErrLong},
		// Too many tokens.
		{full, 0, api.OK}, {full + "$\n \n", 0, api.OK}, {full + ";", 6000, api.ErrLimit}, {full + " \n x;;", 6003, api.ErrLimit}, {full + "!", 6000, api.ErrByte}, {full + "$\t", 6001, api.ErrByte},
		{full + a, 6000, api.ErrLong}, {full + `"`, 6000, api.ErrQuote}, {full + "\"a\t\"", 6000, api.ErrLimit}, {full[:5999] + "\"a\t\"", 6001, api.ErrByte}, {full + ";!", 6000, api.ErrLimit},
		// Too large a source.
		{strings.Repeat(" ", 20000), 0, api.OK}, {strings.Repeat(" ", 20001), 0, api.ErrLimit}, {strings.Repeat(" ", 20000) + "\t", 0, api.ErrLimit}, {"a!" + strings.Repeat("\n", 20000), 0, api.ErrLimit}, {strings.Repeat(";", 30000), 0, api.ErrLimit},
	} {
		l, at, e := lex.Scan(c.src)
		if at != c.at || e != c.e || e != api.OK && len(l) > 0 {
			t.Errorf("Scan of %s: error %d at %d, want %d at %d; %d tokens", short(c.src), e, at, c.e, c.at, len(l))
		}
		holdScan(t, c.src)
	}
}

// P6.1: all short sources of several alphabets.
func TestShortSources(t *testing.T) {
	for alphabet, most := range map[string]int{"a1.\"$\n ": 5, ":=*/<>.-+": 4, "A_9e0.": 5, "\"\t\x80!$\na": 5, "()[]{},;:|?@#&": 3, "\" x": 8, "oOrRmMiIfF": 4} {
		words(alphabet, most, func(src string) { holdScan(t, src) })
	}
	for a := range 256 {
		for b := range 256 {
			holdScan(t, string([]byte{byte(a), byte(b)}))
			holdScan(t, string([]byte{'"', byte(a), byte(b), '"'}))
			holdScan(t, string([]byte{'$', byte(a), byte(b)}))
		}
	}
}

// P6.1: sources by chance, most of them with errors.
func TestRandomSources(t *testing.T) {
	r := rand.New(rand.NewSource(61))
	for range 4000 {
		src := ""
		for range r.Intn(60) {
			src += piece(r)
			if r.Intn(40) == 0 {
				src += one(r, "\t", "_", "!", `"`, strings.Repeat("k", 25), "1."+strings.Repeat("3", 21), "\x7f")
			}
		}
		holdScan(t, src)
		holdScan(t, source(r, 40))
	}
}
