package spell_test

import (
	"bytes"
	"math"
	"slices"
	"strings"
	"testing"

	"zermelo/api"
	"zermelo/spell"
	"zermelo/val"
)

// unformed are values that are neither formed nor om.
func unformed() []api.Val {
	return []api.Val{
		{Kind: -1}, {Kind: 9}, {Kind: math.MaxInt}, {Kind: math.MinInt}, {N: 1}, boolean(2), boolean(-1), {Kind: api.VBool, Str: "a"}, atom(0), atom(-1), proc(-1),
		{Kind: api.VInt, Int: api.Int{Abs: []uint32{1, 0}}}, {Kind: api.VInt, Int: api.Int{Neg: true}}, large(twoTo(32*api.MaxLimbs, 0)),
		decimal(5, 0), decimal(20, 2), decimal(5, api.MaxScale+1), {Kind: api.VDec, N: 1, Int: api.Int{Abs: make([]uint32, api.MaxBig+1)}},
		str("\t"), str("\x00"), str("\x7f"), str("\xff"), str("ä"), str(strings.Repeat("x", api.MaxStr+1)), str(strings.Repeat("\t", api.MaxStr+1)),
		tuple(om), tuple(integer(1), om), set(om), set(integer(2), integer(1)), set(integer(1), integer(1)), tuple(set(tuple(om))),
		tuple(integers(api.MaxNodes)...), set(integers(api.MaxNodes)...), nested(integer(1), api.MaxDeep, tuple), nested(om, 100, set),
	}
}

// P4.1 to P4.6: values that are neither formed nor om come first.
func TestUnformed(t *testing.T) {
	crowd := make([]api.Val, api.MaxVals+5)
	for _, v := range unformed() {
		want := val.Check(v)
		if want == api.OK {
			t.Fatalf("the kind %d with N %d is formed", v.Kind, v.N)
		}
		alone := func(call string, zero bool, e api.Errno) {
			t.Helper()
			if e != want || !zero {
				t.Errorf("%s of the kind %d with N %d: error %d, want %d alone", call, v.Kind, v.N, e, want)
			}
		}
		s, e := spell.Show(v)
		alone("Show", s == "", e)
		s, e = spell.Text(v)
		alone("Text", s == "", e)
		b, e := spell.Encode(v)
		alone("Encode", b == nil, e)
		n, e := spell.Width(v)
		alone("Width", n == 0, e)
		for _, l := range [][]api.Val{{v}, {om, v}, {integer(1), str("a"), v, integer(2)}, append(slices.Clone(crowd), v)} {
			s, e := spell.Line(l)
			alone("Line", s == "", e)
			s, e = spell.Lines(l)
			alone("Lines", s == "", e)
			b, e := spell.EncodeAll(l)
			alone("EncodeAll", b == nil, e)
		}
	}
	// The first one decides.
	form, limit := tuple(om), large(twoTo(32*api.MaxLimbs, 0))
	for _, c := range []struct {
		l    []api.Val
		want api.Errno
	}{{[]api.Val{om, form, limit}, api.ErrForm}, {[]api.Val{limit, om, form}, api.ErrLimit}} {
		_, ofLine := spell.Line(c.l)
		_, ofLines := spell.Lines(c.l)
		_, ofAll := spell.EncodeAll(c.l)
		if ofLine != c.want || ofLines != c.want || ofAll != c.want {
			t.Errorf("Line, Lines, EncodeAll: errors %d, %d, %d, want %d", ofLine, ofLines, ofAll, c.want)
		}
	}
}

// P4.1
func TestTextShow(t *testing.T) {
	for _, c := range []struct {
		v          api.Val
		text, show string
	}{
		{om, "<om>", "<om>"}, {boolean(0), "false", "false"}, {boolean(1), "true", "true"},
		{integer(0), "0", "0"}, {integer(-42), "-42", "-42"}, {large(twoTo(64, 0)), "18446744073709551616", "18446744073709551616"},
		{decimal(0, 1), "0.0", "0.0"}, {decimal(75, 1), "7.5", "7.5"}, {decimal(-5, 2), "-0.05", "-0.05"}, {decimal(-20, 1), "-2.0", "-2.0"},
		{str(""), `""`, ""}, {str("a\"b"), `"a""b"`, `a"b`}, {str("\n\\"), `"\n\\"`, "\n\\"}, {str(`\n`), `"\\n"`, `\n`}, {str("\"\"\n\n"), `"""""\n\n"`, "\"\"\n\n"},
		{atom(12), "<atom 12>", "<atom 12>"}, {proc(0), "<proc 0>", "<proc 0>"}, {atom(math.MaxInt), "<atom 9223372036854775807>", "<atom 9223372036854775807>"},
		{tuple(), "[]", "[]"}, {set(), "{}", "{}"}, {tuple(integer(1), om, str("a\"b")), `[1, <om>, "a""b"]`, `[1, <om>, "a""b"]`}, {tuple(str("a\"b")), `["a""b"]`, `["a""b"]`},
		{set(integer(1), str("x"), tuple(set(), om, atom(3))), `{1, "x", [{}, <om>, <atom 3>]}`, `{1, "x", [{}, <om>, <atom 3>]}`},
		{set(integer(1), decimal(10, 1)), "{1, 1.0}", "{1, 1.0}"}, {set(str("\n")), `{"\n"}`, `{"\n"}`},
	} {
		text, e := spell.Text(c.v)
		show, f := spell.Show(c.v)
		if e != api.OK || f != api.OK || text != c.text || show != c.show {
			t.Errorf("Text %q, error %d, Show %q, error %d; want %q, %q", text, e, show, f, c.text, c.show)
		}
	}
	for _, v := range many(1) {
		want := written(v)
		if text, e := spell.Text(v); e != api.OK || text != want {
			t.Errorf("Text is %s, error %d; want %s", short(text), e, short(want))
		}
		if v.Kind == api.VStr {
			want = v.Str
		}
		if show, e := spell.Show(v); e != api.OK || show != want {
			t.Errorf("Show is %s, error %d; want %s", short(show), e, short(want))
		}
	}
}

// P4.2
func TestQuote(t *testing.T) {
	for s, want := range map[string]string{"": `""`, "ab": `"ab"`, "a\"b": `"a""b"`, "\\": `"\\"`, "\n": `"\n"`, `\"`: `"\\"""`, "\n\\": `"\n\\"`, `\n`: `"\\n"`} {
		if q, e := spell.Quote(s); e != api.OK || q != want {
			t.Errorf("Quote(%q) is %q, error %d; want %q", s, q, e, want)
		}
	}
	long := strings.Repeat("\"", api.MaxStr)
	if q, e := spell.Quote(long); e != api.OK || q != `"`+long+long+`"` {
		t.Errorf("Quote of %d quotes: %s, error %d", len(long), short(q), e)
	}
	for b := range 256 {
		c := string([]byte{byte(b)})
		want := api.ErrForm
		if b == 10 || b >= 32 && b <= 126 {
			want = api.OK
		}
		for _, s := range []string{c, "a" + c, c + "\n"} {
			if q, e := spell.Quote(s); e != want || (q == "") != (want != api.OK) {
				t.Errorf("Quote(%q) is %q, error %d; want %d", s, q, e, want)
			}
		}
		if want == api.OK {
			want = api.ErrLimit
		}
		for _, s := range []string{long + c, c + long + long} {
			if q, e := spell.Quote(s); e != want || q != "" {
				t.Errorf("Quote(%s) is %s, error %d; want %d", short(s), short(q), e, want)
			}
		}
	}
}

// P4.2
func TestUnquote(t *testing.T) {
	long := strings.Repeat("x", api.MaxStr)
	for s, want := range map[string]string{
		`""`: "", `"a"`: "a", `""""`: `"`, `"a""b"`: `a"b`, `"\\"`: `\`, `"\n"`: "\n", `"\\n"`: `\n`, `"\\""\n"`: "\\\"\n", `"[1, 2]"`: "[1, 2]", `" a "`: " a ",
		`"` + long + `"`: long, `"` + long[1:] + `"""`: long[1:] + `"`, `"\n` + long[1:] + `"`: "\n" + long[1:],
	} {
		if got, e := spell.Unquote(s); e != api.OK || got != want {
			t.Errorf("Unquote(%s) is %s, error %d; want %s", short(s), short(got), e, short(want))
		}
	}
	refused := map[string]api.Errno{
		"": api.ErrForm, "a": api.ErrForm, `"`: api.ErrForm, `"a`: api.ErrForm, `a"`: api.ErrForm, `"""`: api.ErrForm, `"a"b"`: api.ErrForm, `"a" `: api.ErrForm, ` "a"`: api.ErrForm, `"a""`: api.ErrForm,
		`"\"`: api.ErrForm, `"\`: api.ErrForm, `"\x"`: api.ErrForm, `"\N"`: api.ErrForm, `"\""`: api.ErrForm, `"\ "`: api.ErrForm, "\"\n\"": api.ErrForm, "\"a\tb\"": api.ErrForm, "\"\x7f\"": api.ErrForm, "\"\x00\"": api.ErrForm, "\"ä\"": api.ErrForm, `'a'`: api.ErrForm, `"a""b"""""c`: api.ErrForm,
		`"` + long + `x"`: api.ErrLimit, `"` + long + `"""`: api.ErrLimit, `"\\` + long + `"`: api.ErrLimit, `"` + strings.Repeat(long, 300) + `"`: api.ErrLimit,
		`"` + long + `x`: api.ErrForm, `"` + long + `x"y`: api.ErrForm, "\"" + long + "x\n\"": api.ErrForm, `"` + strings.Repeat(long, 300): api.ErrForm,
	}
	for b := range 256 {
		if c := byte(b); (c < 32 || c > 126) && c != '"' {
			refused[string([]byte{'"', c, '"'})] = api.ErrForm
		}
		if c := byte(b); c != '\\' && c != 'n' {
			refused[string([]byte{'"', '\\', c, '"'})] = api.ErrForm
		}
	}
	for s, want := range refused {
		if got, e := spell.Unquote(s); e != want || got != "" {
			t.Errorf("Unquote(%s) is %s, error %d; want %d alone", short(s), short(got), e, want)
		}
	}
}

// P4.4
func TestLineLines(t *testing.T) {
	for _, c := range []struct {
		l           []api.Val
		line, lines string
	}{
		{nil, "", ""}, {[]api.Val{om}, "<om>", "<om>\n"}, {[]api.Val{str("")}, "", "\"\"\n"}, {[]api.Val{str("a b"), integer(2), om}, "a b 2 <om>", "\"a b\"\n2\n<om>\n"},
		{[]api.Val{str(""), str("")}, " ", "\"\"\n\"\"\n"}, {[]api.Val{str("\n"), tuple(str("\n"))}, "\n [\"\\n\"]", "\"\\n\"\n[\"\\n\"]\n"},
	} {
		line, e := spell.Line(c.l)
		lines, f := spell.Lines(c.l)
		if e != api.OK || f != api.OK || line != c.line || lines != c.lines {
			t.Errorf("Line %q, error %d, Lines %q, error %d; want %q, %q", line, e, lines, f, c.line, c.lines)
		}
	}
	l := many(2)
	for range 3 { // more than ReadLines would take
		l = append(l, l...)
	}
	var shows []string
	var texts strings.Builder
	for _, v := range l {
		shows = append(shows, must[string](t)(spell.Show(v)))
		texts.WriteString(written(v) + "\n")
	}
	if line, e := spell.Line(l); e != api.OK || line != strings.Join(shows, " ") {
		t.Errorf("Line of %d values: %s, error %d", len(l), short(line), e)
	}
	if lines, e := spell.Lines(l); e != api.OK || lines != texts.String() {
		t.Errorf("Lines of %d values: %s, error %d", len(l), short(lines), e)
	}
}

// P4.4
func TestReadLines(t *testing.T) {
	full := strings.Repeat("1\n", api.MaxVals)
	wide := strings.Repeat(" ", api.MaxText-2)
	for _, c := range []struct {
		s    string
		want []api.Val
	}{
		{"", nil}, {"1\n", integers(2)[1:]}, {"<om>\n\"a\\n\"\n", []api.Val{om, str("a\n")}}, {" [ 1 , <om> ] \n-0\n", []api.Val{tuple(integer(1)), integer(0)}},
		{wide + "1\n", integers(2)[1:]}, {"1\n" + wide[4:] + "{}\n", []api.Val{integer(1), set()}},
	} {
		if l, line, e := spell.ReadLines(c.s); e != api.OK || line != 0 || !sameAll(l, c.want) {
			t.Errorf("ReadLines(%s) are %d values, line %d, error %d", short(c.s), len(l), line, e)
		}
	}
	if l, line, e := spell.ReadLines(full); e != api.OK || line != 0 || len(l) != api.MaxVals {
		t.Errorf("ReadLines of %d lines: %d values, line %d, error %d", api.MaxVals, len(l), line, e)
	}
	for _, c := range []struct {
		s    string
		line int
		want api.Errno
	}{
		{"1", 1, api.ErrText}, {"\n", 1, api.ErrText}, {" \n", 1, api.ErrText}, {"1\n2", 2, api.ErrText}, {"1\nx\n", 2, api.ErrText}, {"1\n\n2\n", 2, api.ErrText}, {"1\n2\n ", 3, api.ErrText},
		{"[1,\n2]\n", 1, api.ErrText}, {"1\n2\r\n", 2, api.ErrText}, {"1 1\n\nx", 1, api.ErrText}, {"\"a\n\"\n", 1, api.ErrText}, {"1\n\"\n", 2, api.ErrText},
		{"1\n1.000000000000000000001\n\n", 2, api.ErrLimit}, {"x\n1.000000000000000000001\n", 1, api.ErrText}, {"1\n" + strings.Repeat("[", 21) + "\n2\n", 2, api.ErrLimit}, {"[" + strings.Repeat("1,", api.MaxNodes) + "1]\n2\n", 1, api.ErrLimit},
		{"1\n1.000000000000000000001", 2, api.ErrText}, {full + "x", api.MaxVals + 1, api.ErrText}, {full + " ", api.MaxVals + 1, api.ErrText}, {full[2:] + "x\n", api.MaxVals, api.ErrText},
		{full + "\n", 0, api.ErrLimit}, {"x\n" + full, 0, api.ErrLimit}, {strings.Repeat("\n", api.MaxText), 0, api.ErrLimit},
		{wide + "1\n ", 0, api.ErrLimit}, {" " + wide + "1\n", 0, api.ErrLimit}, {wide + "1 x", 0, api.ErrLimit}, {wide + "x\n", 1, api.ErrText}, {wide + "\nx", 1, api.ErrText},
	} {
		if l, line, e := spell.ReadLines(c.s); e != c.want || line != c.line || l != nil {
			t.Errorf("ReadLines(%s): %d values, line %d, error %d; want line %d, error %d", short(c.s), len(l), line, e, c.line, c.want)
		}
	}
}

// P4.5
func TestEncodeWidth(t *testing.T) {
	for _, c := range []struct {
		v    api.Val
		want []byte
	}{
		{om, []byte{0}}, {boolean(0), []byte{1, 0}}, {boolean(1), []byte{1, 1}}, {integer(0), []byte{2, 0, 0}}, {integer(-300), []byte{2, 1, 2, 44, 1}}, {integer(255), []byte{2, 0, 1, 255}}, {integer(1 << 32), []byte{2, 0, 5, 0, 0, 0, 0, 1}},
		{decimal(75, 1), []byte{3, 1, 0, 1, 75}}, {decimal(-1, 20), []byte{3, 20, 1, 1, 1}}, {decimal(0, 1), []byte{3, 1, 0, 0}}, {str(""), []byte{4, 0}}, {str("a\n"), []byte{4, 2, 'a', 10}},
		{atom(1), []byte{5, 1}}, {atom(127), []byte{5, 127}}, {atom(128), []byte{5, 128, 1}}, {atom(300), []byte{5, 172, 2}}, {proc(0), []byte{6, 0}}, {proc(1 << 14), []byte{6, 128, 128, 1}}, {proc(math.MaxInt), []byte{6, 255, 255, 255, 255, 255, 255, 255, 255, 127}},
		{tuple(), []byte{7, 0}}, {tuple(om, integer(1)), []byte{7, 2, 0, 2, 0, 1, 1}}, {set(), []byte{8, 0}}, {set(boolean(1)), []byte{8, 1, 1, 1}}, {set(boolean(1), str("ab")), []byte{8, 2, 1, 1, 4, 2, 'a', 'b'}},
	} {
		if b, e := spell.Encode(c.v); e != api.OK || !bytes.Equal(b, c.want) {
			t.Errorf("Encode of %s is %v, error %d; want %v", told(c.v), b, e, c.want)
		}
	}
	for _, v := range many(3) {
		want := coded(v)
		if b, e := spell.Encode(v); e != api.OK || !bytes.Equal(b, want) {
			t.Errorf("Encode of %s is %v, error %d; want %v", told(v), b, e, want)
		}
		if n, e := spell.Width(v); e != api.OK || n != len(want) {
			t.Errorf("Width of %s is %d, error %d; want %d", told(v), n, e, len(want))
		}
	}
	// What Decode does not read is written all the same.
	var l []api.Val
	for range api.MaxBytes / api.MaxStr {
		l = append(l, str(strings.Repeat("\n", api.MaxStr)))
	}
	b, e := spell.Encode(tuple(l...))
	n, f := spell.Width(tuple(l...))
	if e != api.OK || f != api.OK || n != len(b) || !bytes.Equal(b, coded(tuple(l...))) {
		t.Errorf("%d bytes, error %d, the width %d, error %d", len(b), e, n, f)
	}
	if v, e := spell.Decode(b); e != api.ErrLimit || !same(v, om) {
		t.Errorf("Decode of %d bytes: %s, error %d", len(b), told(v), e)
	}
}

// broken are bytes that are not the binary form of a value.
func broken() map[string]bool {
	l := map[string]bool{}
	for _, b := range [][]byte{
		{}, {9}, {255}, {9, 0}, {0, 0}, {0, 1}, {1}, {1, 2}, {1, 255}, {1, 1, 0}, {1, 0, 0},
		{2}, {2, 0}, {2, 1}, {2, 1, 0}, {2, 2, 0}, {2, 2, 1, 5}, {2, 255, 1, 5}, {2, 0, 1}, {2, 0, 1, 0}, {2, 0, 2, 1, 0}, {2, 0, 2, 0, 0}, {2, 0, 2, 1}, {2, 0, 0, 0}, {2, 0, 1, 5, 0}, {2, 0, 129, 0, 5}, {2, 0, 128, 0},
		{3}, {3, 1}, {3, 0, 0, 0}, {3, 0, 0, 1, 5}, {3, 21, 0, 1, 5}, {3, 255, 0, 1, 5}, {3, 129, 0, 0, 1, 5}, {3, 2, 0, 0}, {3, 2, 0, 1, 20}, {3, 1, 1, 0}, {3, 1, 2, 1, 5}, {3, 1, 0, 1, 0}, {3, 1, 0, 2, 5}, {3, 1, 0, 1, 5, 5},
		{4}, {4, 1}, {4, 2, 'a'}, {4, 1, 'a', 'b'}, {4, 129, 0, 'a'}, {4, 128, 0}, {4, 1, 9}, {4, 1, 127}, {4, 1, 0}, {4, 2, 'a', 200}, {4, 255, 255, 255, 255, 255, 255, 255, 255, 127, 'a'}, {4, 255, 255, 255, 255, 255, 255, 255, 255, 255, 1, 'a'},
		{5}, {5, 0}, {5, 128}, {5, 128, 0}, {5, 129, 0}, {5, 129, 128, 0}, {5, 1, 1}, {5, 128, 128, 128, 128, 128, 128, 128, 128, 128, 1}, {5, 255, 255, 255, 255, 255, 255, 255, 255, 255, 1}, {5, 129, 128, 128, 128, 128, 128, 128, 128, 128, 0}, {5, 129, 128, 128, 128, 128, 128, 128, 128, 128, 2},
		{6}, {6, 128, 0}, {6, 0, 0}, {6, 128, 128, 128, 128, 128, 128, 128, 128, 128, 1}, {6, 128, 128, 128, 128, 128, 128, 128, 128, 128, 128, 1}, {6, 128, 128, 128, 128, 128, 128, 128, 128},
		{7}, {7, 1}, {7, 1, 0}, {7, 2, 1, 1, 0}, {7, 2, 1, 1}, {7, 0, 0}, {7, 0, 1, 1}, {7, 129, 0, 1, 1}, {7, 1, 9}, {7, 1, 1, 2}, {7, 1, 7, 1, 0}, {7, 255, 255, 255, 255, 255, 255, 255, 255, 127}, {7, 255, 255, 255, 255, 255, 255, 255, 255, 127, 1, 1},
		{8}, {8, 1}, {8, 1, 0}, {8, 2, 0, 1, 1}, {8, 2, 1, 1, 1, 1}, {8, 2, 1, 1, 1, 0}, {8, 2, 2, 0, 1, 1, 1, 1}, {8, 2, 1, 1}, {8, 1, 1, 1, 1, 0}, {8, 1, 8, 2, 1, 1, 1, 0}, {8, 2, 4, 1, 'a', 2, 0, 0},
		[]byte("[1, 2]"), []byte("\x07\x01\x01\x01 "),
	} {
		l[string(b)] = true
	}
	for _, v := range unformed() {
		if v.Kind >= api.VStr && v.Kind <= api.VSet && v.N >= 0 {
			l[string(coded(v))] = true
		}
	}
	for _, deep := range []int{api.MaxDeep, api.MaxDeep + 1, 1000, api.MaxBytes/2 - 2} {
		l[strings.Repeat("\x07\x01", deep)+"\x01\x01"] = true
		l[strings.Repeat("\x08\x01", deep)+"\x08\x00"] = true
		l[strings.Repeat("\x07\x01", deep)] = true
	}
	return l
}

// P4.5
func TestDecode(t *testing.T) {
	for _, v := range many(4) {
		if got, e := spell.Decode(coded(v)); e != api.OK || !same(got, v) {
			t.Errorf("Decode of the bytes of %s is %s, error %d", told(v), told(got), e)
		}
	}
	long := str(strings.Repeat("x", api.MaxStr))
	for _, v := range []api.Val{long, tuple(integers(api.MaxNodes - 1)...), set(integers(api.MaxNodes - 1)...), tuple(append(slices.Repeat([]api.Val{long}, 190), om, om, set())...)} {
		if got, e := spell.Decode(coded(v)); e != api.OK || !same(got, v) {
			t.Errorf("Decode of the bytes of %s is %s, error %d", told(v), told(got), e)
		}
	}
	for s := range broken() {
		if v, e := spell.Decode([]byte(s)); e != api.ErrBytes || !same(v, om) {
			t.Errorf("Decode(%s) is %s, error %d", short(s), told(v), e)
		}
	}
	if v, e := spell.Decode(nil); e != api.ErrBytes || !same(v, om) {
		t.Errorf("Decode of nothing is %s, error %d", told(v), e)
	}
}

// full is a value whose binary form has just so many bytes, at least 130000.
func full(t *testing.T, many int) api.Val {
	l := slices.Repeat([]api.Val{str(strings.Repeat("x", 997))}, many/1000-2) // 1000 bytes each
	left := many - 1000*len(l) - 12                                           // 3 bytes are ahead of the elements, and of each string
	for _, part := range []int{left / 3, (left + 1) / 3, (left + 2) / 3} {
		l = append(l, str(strings.Repeat("y", part)))
	}
	v := tuple(l...)
	if len(coded(v)) != many {
		t.Fatalf("%d bytes, not %d", len(coded(v)), many)
	}
	return v
}

// P4.5, P4.6: how many bytes are read.
func TestMaxBytes(t *testing.T) {
	most := full(t, api.MaxBytes)
	if v, e := spell.Decode(coded(most)); e != api.OK || !same(v, most) {
		t.Errorf("Decode of %d bytes: error %d", api.MaxBytes, e)
	}
	list := codedAll([]api.Val{full(t, api.MaxBytes-1)})
	if l, e := spell.DecodeAll(list); e != api.OK || len(l) != 1 {
		t.Errorf("DecodeAll of %d bytes: %d values, error %d", len(list), len(l), e)
	}
	for _, b := range [][]byte{coded(full(t, api.MaxBytes+1)), append(coded(most), 0), make([]byte, api.MaxBytes+1), slices.Repeat([]byte{255}, 1000000)} {
		if v, e := spell.Decode(b); e != api.ErrLimit || !same(v, om) {
			t.Errorf("Decode of %d bytes: %s, error %d", len(b), told(v), e)
		}
		if l, e := spell.DecodeAll(append([]byte{1}, b...)); e != api.ErrLimit || l != nil {
			t.Errorf("DecodeAll of %d bytes: %d values, error %d", len(b)+1, len(l), e)
		}
	}
	for _, b := range [][]byte{make([]byte, api.MaxBytes), slices.Repeat([]byte{255}, api.MaxBytes), slices.Repeat([]byte{7}, api.MaxBytes)} {
		_, e := spell.Decode(b)
		_, f := spell.DecodeAll(b)
		if e != api.ErrBytes || f != api.ErrBytes {
			t.Errorf("Decode and DecodeAll of %d bytes: errors %d, %d", len(b), e, f)
		}
	}
}

// P4.6
func TestEncodeAll(t *testing.T) {
	for _, l := range [][]api.Val{nil, {om}, {om, integer(5)}, many(5), slices.Repeat([]api.Val{om}, api.MaxVals), integers(api.MaxVals)} {
		want := codedAll(l)
		if b, e := spell.EncodeAll(l); e != api.OK || !bytes.Equal(b, want) {
			t.Errorf("EncodeAll of %d values is %s, error %d; want %s", len(l), short(string(b)), e, short(string(want)))
		}
		if got, e := spell.DecodeAll(want); e != api.OK || !sameAll(got, l) {
			t.Errorf("DecodeAll of %s: %d values, error %d; want %d", short(string(want)), len(got), e, len(l))
		}
	}
	if b, e := spell.EncodeAll([]api.Val{om, integer(5)}); e != api.OK || string(b) != "\x02\x00\x02\x00\x01\x05" {
		t.Errorf("EncodeAll of om and 5 is %v, error %d", b, e)
	}
	for _, many := range []int{api.MaxVals + 1, 10 * api.MaxVals} {
		l := slices.Repeat([]api.Val{om}, many)
		if b, e := spell.EncodeAll(l); e != api.ErrLimit || b != nil {
			t.Errorf("EncodeAll of %d values: %d bytes, error %d", many, len(b), e)
		}
		if got, e := spell.DecodeAll(codedAll(l)); e != api.ErrBytes || got != nil {
			t.Errorf("DecodeAll of %d values: %d values, error %d", many, len(got), e)
		}
	}
}

// P4.6
func TestDecodeAllBroken(t *testing.T) {
	for _, b := range [][]byte{nil, {128, 0}, {129, 0, 0}, {1}, {2, 0}, {0, 0}, {1, 0, 0}, {3, 0, 0}, {255, 255, 255, 255, 255, 255, 255, 255, 127}, {255, 255, 255, 255, 255, 255, 255, 255, 255, 1}} {
		if l, e := spell.DecodeAll(b); e != api.ErrBytes || l != nil {
			t.Errorf("DecodeAll(%v): %d values, error %d", b, len(l), e)
		}
	}
	for s := range broken() {
		for _, b := range [][]byte{append([]byte{1}, s...), append([]byte{2, 0}, s...)} {
			if l, e := spell.DecodeAll(b); e != api.ErrBytes || l != nil {
				t.Errorf("DecodeAll(%s): %d values, error %d", short(string(b)), len(l), e)
			}
		}
	}
}
