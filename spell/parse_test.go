package spell_test

import (
	"math"
	"math/big"
	"math/rand"
	"slices"
	"strconv"
	"strings"
	"testing"

	"zermelo/api"
	"zermelo/spell"
	"zermelo/val"
)

// P4.3
func TestParse(t *testing.T) {
	zeros := strings.Repeat("0", 3000)
	long := strings.Repeat("x", api.MaxStr)
	deep := strings.Repeat("[", api.MaxDeep)
	for _, c := range []struct {
		s    string
		want api.Val
	}{
		{"<om>", om}, {"  <om> ", om}, {"true", boolean(1)}, {" false ", boolean(0)},
		{"0", integer(0)}, {"-0", integer(0)}, {"-000", integer(0)}, {"007", integer(7)}, {"-12", integer(-12)}, {" 5 ", integer(5)}, {"18446744073709551616", large(twoTo(64, 0))},
		{"-0" + most().String(), large(new(big.Int).Neg(most()))}, {zeros + "1", integer(1)},
		{"0.0", decimal(0, 1)}, {"-0.0", decimal(0, 1)}, {"-00.000", decimal(0, 1)}, {"007.50", decimal(75, 1)}, {"7.0", decimal(70, 1)}, {"-1.25", decimal(-125, 2)}, {"100.00", decimal(1000, 1)},
		{"0.00000000000000000001", decimal(1, 20)}, {"-0.00000000000000000001" + zeros, decimal(-1, 20)}, {zeros + "." + zeros, decimal(0, 1)}, {zeros + "1." + zeros, decimal(10, 1)},
		{`""`, str("")}, {` "a""b" `, str(`a"b`)}, {`"\\n\n"`, str("\\n\n")}, {`"[1, 2]"`, str("[1, 2]")}, {`"` + long + `"`, str(long)}, {`"` + long[1:] + `"""`, str(long[1:] + `"`)},
		{"<atom 1>", atom(1)}, {"<atom 012>", atom(12)}, {"<proc 0>", proc(0)}, {"<proc 00>", proc(0)}, {"<proc 9223372036854775807>", proc(math.MaxInt)}, {" <atom " + zeros + "9223372036854775807> ", atom(math.MaxInt)},
		{"[]", tuple()}, {"[ ]", tuple()}, {" [  ]  ", tuple()}, {"[1]", tuple(integer(1))}, {"[1,2]", tuple(integer(1), integer(2))}, {"[ 1 , 2 ]", tuple(integer(1), integer(2))}, {"[[],[]]", tuple(tuple(), tuple())},
		{"[1,<om>]", tuple(integer(1))}, {"[<om>]", tuple()}, {"[<om>, <om>]", tuple()}, {"[<om>,1]", tuple(om, integer(1))}, {"[1,<om>,2,<om>,<om>]", tuple(integer(1), om, integer(2))}, {"[[<om>]]", tuple(tuple())},
		{"{}", set()}, {"{ }", set()}, {" { 2,1 , 2} ", set(integer(1), integer(2))}, {"{<om>}", set()}, {"{1,<om>,1}", set(integer(1))}, {"{{},{<om>}}", set(set())}, {"{1.0, 1, 01, 1.00}", set(integer(1), decimal(10, 1))},
		{"{[1, <om>], [1]}", set(tuple(integer(1)))}, {`{"b","a"}`, set(str("a"), str("b"))}, {"{{2,1},{1,2}}", set(set(integer(1), integer(2)))}, {"{true,false,-0,0}", set(boolean(0), boolean(1), integer(0))},
		{"[ [ ] , { } ]", tuple(tuple(), set())}, {`[true,"]",-1.50,<proc 3>]`, tuple(boolean(1), str("]"), decimal(-15, 1), proc(3))},
		{deep + strings.Repeat("]", api.MaxDeep), nested(tuple(), api.MaxDeep-1, tuple)}, {deep[1:] + "<om>" + strings.Repeat("]", api.MaxDeep-1), nested(tuple(), api.MaxDeep-2, tuple)}, {deep[1:] + "{ }" + strings.Repeat("]", api.MaxDeep-1), nested(set(), api.MaxDeep-1, tuple)},
	} {
		if v, at, e := spell.Parse(c.s); e != api.OK || at != 0 || !same(v, c.want) {
			t.Errorf("Parse(%s) is %s, %d, error %d; want %s", short(c.s), told(v), at, e, told(c.want))
		}
	}
}

// refused tells if Parse of a string has another error than the one that is wanted, or a result beside it.
func refused(t *testing.T, s string, where int, want api.Errno) {
	t.Helper()
	if v, at, e := spell.Parse(s); e != want || at != where || !same(v, om) {
		t.Errorf("Parse(%s) is %s, %d, error %d; want %d, error %d", short(s), told(v), at, e, where, want)
	}
}

// P4.3: what is no printed form.
func TestParseText(t *testing.T) {
	for _, c := range []struct {
		s  string
		at int
	}{
		{"", 0}, {" ", 1}, {"   ", 3}, {"\n", 0}, {"\t1", 0}, {"1\n", 1}, {"x", 0}, {"om", 0}, {"None", 0}, {"\x00", 0}, {"ä", 0}, {"'a'", 0}, {"+1", 0},
		{"1 1", 2}, {"1  2", 3}, {"1,", 1}, {"1]", 1}, {",", 0}, {"]", 0}, {"[] []", 3}, {"1 x", 2}, {"<om><om>", 4}, {`""1`, 2}, {`"a" "b"`, 4}, {"1-1", 1}, {"12a", 2}, {"1e5", 1}, {"0x1", 1},
		{"-", 1}, {"- 1", 1}, {"--1", 1}, {"-x", 1}, {"-.5", 1}, {".5", 0}, {"1.", 2}, {"1. ", 2}, {"1.-5", 2}, {"1..2", 2}, {"1.5.3", 3}, {"1 .5", 2}, {"1.5x", 3}, {"-1.", 3}, {"[1.]", 3},
		{"t", 1}, {"tru", 3}, {"tru ", 3}, {"trUe", 2}, {"True", 0}, {"truee", 4}, {"true1", 4}, {"fals", 4}, {"f", 1}, {"falsy", 4}, {"true false", 5}, {"[true1]", 5},
		{"<", 1}, {"<o", 2}, {"<om", 3}, {"<om >", 3}, {"< om>", 1}, {"<Om>", 1}, {"<x>", 1}, {"<>", 1}, {"<omx", 3}, {"<om>>", 4},
		{"<atom", 5}, {"<atom ", 6}, {"<atom>", 5}, {"<atom >", 6}, {"<atom  1>", 6}, {"<atom -1>", 6}, {"<atom 1", 7}, {"<atom 1 >", 7}, {"<atom 0>", 7}, {"<atom 000>", 9}, {"<atom 0 ", 7}, {"<atom 1.0>", 7}, {"<atom1>", 5}, {"<a 1>", 2}, {"<proc >", 6}, {"<proc -0>", 6}, {"<proc 0x>", 7}, {"<prog 1>", 4},
		{"<atom 9223372036854775808>", 24}, {"<atom 9223372036854775808", 24}, {"<proc 92233720368547758070>", 25}, {"<proc 10000000000000000000>", 25}, {"<proc 9999999999999999999>", 24}, {"<atom 009223372036854775808>", 26}, {"<atom 0" + strings.Repeat("9", 100) + ">", 25},
		{`"`, 1}, {`"a`, 2}, {`"""`, 3}, {`"a""`, 4}, {`"\`, 2}, {`"\"`, 2}, {`"\x"`, 2}, {`"\N"`, 2}, {`"\\`, 3}, {"\"a\n\"", 2}, {"\"\x7f\"", 1}, {"\"a\tb\"", 2}, {"\"ä\"", 1}, {`"a"b`, 3}, {`"a"n"`, 3}, {`"` + strings.Repeat("x", api.MaxStr), api.MaxStr + 1}, {`"` + strings.Repeat("x", api.MaxStr) + `\`, api.MaxStr + 2}, {`"` + strings.Repeat("x", api.MaxStr) + `\x`, api.MaxStr + 2}, {`"` + strings.Repeat("x", api.MaxStr) + "\n", api.MaxStr + 1},
		{"[", 1}, {"[ ", 2}, {"[1", 2}, {"[1 ", 3}, {"[1 2]", 3}, {"[1,", 3}, {"[1,]", 3}, {"[1, ]", 4}, {"[,1]", 1}, {"[,]", 1}, {"[1,,2]", 3}, {"[1}", 2}, {"{1]", 2}, {"[}", 1}, {"{]", 1}, {"[1;2]", 2}, {"[1]]", 3}, {"[[1]", 4}, {"{1,2", 4}, {"{{}", 3}, {"(1)", 0}, {"[[1}]", 3}, {"[\n]", 1}, {"[1,\n2]", 3}, {"{x}", 1}, {"[1,true,fals]", 12},
	} {
		refused(t, c.s, c.at, api.ErrText)
	}
	// Of a value with too many nodes, whatever else is wrong comes first.
	crowd := "[" + strings.Repeat("1,", api.MaxNodes)
	for _, c := range []string{crowd, crowd + "1", crowd + "x]", crowd + "1}", crowd + "1] x", "{" + crowd + "1],", "  " + crowd + "1],"} {
		at, _ := verdict(c)
		refused(t, c, at, api.ErrText)
	}
}

// P4.3: what is too large.
func TestParseLimit(t *testing.T) {
	large := twoTo(32*api.MaxLimbs, 0).String()
	tenth := new(big.Int).Quo(most(), big.NewInt(10)).String()                                 // as a decimal, the largest integer
	more := new(big.Int).Add(new(big.Int).Quo(most(), big.NewInt(10)), big.NewInt(1)).String() // and one more
	nines := strings.Repeat("9", 4000)
	long := strings.Repeat("x", api.MaxStr)
	deep, ends := strings.Repeat("[", api.MaxDeep), strings.Repeat("]", api.MaxDeep)
	for _, s := range []string{most().String(), "-00" + most().String() + " ", tenth + ".0", tenth + ".5", "-" + tenth + ".00", deep + ends, deep + "  " + ends} {
		if _, at, e := spell.Parse(s); e != api.OK || at != 0 {
			t.Errorf("Parse(%s): %d, error %d", short(s), at, e)
		}
	}
	for _, c := range []struct {
		s  string
		at int
	}{
		{large, 0}, {"-" + large, 0}, {"  000" + large, 2}, {nines, 0}, {"[1, -" + large + "]", 4}, {large + "x", 0}, {large + " 1", 0}, {large + "-", 0}, {"[" + large, 1},
		{large + ".0", 0}, {more + ".0", 0}, {"-" + more + ".0", 0}, {" " + more + ".5", 1}, {more + ".0x", 0}, {more + ".0.", 0}, {nines + ".5", 0}, {tenth + ".55", 0},
		{"1.000000000000000000001", 0}, {"[1.0, -0.000000000000000000001]", 6}, {"0." + nines, 0}, {"1.0000000000000000000010", 0}, {"1.000000000000000000001x", 0},
		{`"` + long + `x"`, 0}, {`"` + long + "x", 0}, {` "` + long + "x\n", 1}, {`"` + long + `""`, 0}, {`"\\` + long + `"`, 0}, {`"` + long[1:] + `\n\n"`, 0}, {`["a", "` + long + long + `"]`, 6}, {`"` + long + `\\`, 0},
		{deep + "1" + ends, 19}, {deep + "<om>" + ends, 19}, {deep + "[]" + ends, 19}, {deep + deep + ends + ends, 19}, {strings.Repeat("{", api.MaxDeep) + "<om>}", 19}, {deep + "1", 19}, {deep + " {", 19}, {" " + deep[1:] + "{ 1", 20}, {deep + "1x", 19}, {"[[]," + deep[1:] + "true", 22}, {strings.Repeat("[", api.MaxText), 19},
		{deep + `"` + long + long, 19}, {deep + large, 19},
		{"[" + large + ", x", 1}, {"[" + large + "," + `"` + long + long, 1}, {`["` + long + `y", ` + large + "]", 1},
		{"[" + strings.Repeat("1,", api.MaxNodes) + large + "]", 2*api.MaxNodes + 1},
	} {
		refused(t, c.s, c.at, api.ErrLimit)
	}
	// A number is too large where it ends.
	for _, c := range []struct {
		s  string
		at int
	}{{large + ".", len(large) + 1}, {large + ".x", len(large) + 1}, {nines + ". 5", len(nines) + 1}, {deep + "x", 20}, {deep + ",", 20}, {deep + " }", 21}, {deep, 20}, {deep + " ", 21}, {deep[1:] + "[]x", 21}} {
		refused(t, c.s, c.at, api.ErrText)
	}
}

// P4.3: how many nodes.
func TestParseNodes(t *testing.T) {
	wide := func(first, many int) string {
		var l []string
		for n := range many {
			l = append(l, strconv.Itoa(first+n))
		}
		return strings.Join(l, ",")
	}
	same := strings.Repeat("7,", 2*api.MaxNodes) + "7"
	none := strings.Repeat("<om>,", 2*api.MaxNodes) + "<om>"
	for _, c := range []struct {
		s     string
		nodes int
	}{
		{"[" + wide(0, api.MaxNodes-1) + "]", api.MaxNodes}, {"{" + wide(0, api.MaxNodes-1) + "}", api.MaxNodes}, {"{" + same + "}", 2}, {"[" + none + "]", 1}, {"{" + none + "}", 1}, {"{" + wide(0, api.MaxNodes-1) + "," + wide(5, 2000) + "}", api.MaxNodes},
		{"[" + wide(0, api.MaxNodes-1) + "," + none + "]", api.MaxNodes}, {"[[" + wide(0, 1498) + "],{" + wide(0, 1499) + "}]", api.MaxNodes}, {"{[" + wide(0, 2000) + "],[" + wide(0, 2000) + "]}", 2002}, {"{{" + same + "},{" + none + "}}", 4},
	} {
		v, at, e := spell.Parse(c.s)
		if e != api.OK || at != 0 || val.Check(v) != api.OK || val.Nodes(v) != c.nodes {
			t.Errorf("Parse(%s): %d nodes, %d, error %d; want %d nodes", short(c.s), val.Nodes(v), at, e, c.nodes)
		}
	}
	for _, s := range []string{
		"[" + wide(0, api.MaxNodes) + "]", "  [" + wide(0, api.MaxNodes) + "] ", "{" + wide(0, api.MaxNodes) + "}", "[" + same + "]", "[" + none + ",1]", "[[" + wide(0, 1499) + "],{" + wide(0, 1499) + "}]", "[1, [2, [" + wide(0, api.MaxNodes) + "]]]",
		"{" + wide(0, 2000) + "," + wide(-2000, 2000) + "}", "{[" + wide(0, 2000) + "],[" + wide(1, 2000) + "]}", "[[" + same + "],[" + same + "]]", "[{[" + same + "]}, 1, <om>]", "{{[" + same + "]}, {[" + same + "]}}",
	} {
		refused(t, s, 0, api.ErrLimit)
	}
}

// P4.3: how many bytes.
func TestParseBytes(t *testing.T) {
	blanks := strings.Repeat(" ", api.MaxText-1)
	for _, s := range []string{blanks + "1", "1" + blanks, "[" + blanks[2:] + "1]", strings.Repeat("0", api.MaxText-1) + "1"} {
		if v, at, e := spell.Parse(s); e != api.OK || at != 0 || val.Nodes(v) == 0 {
			t.Errorf("Parse of %d bytes: %s, %d, error %d", len(s), told(v), at, e)
		}
		refused(t, s+" ", 0, api.ErrLimit)
		refused(t, s+"x", 0, api.ErrLimit)
		refused(t, "x"+s, 0, api.ErrLimit)
	}
	refused(t, blanks+" ", api.MaxText, api.ErrText)
	refused(t, blanks+"x", api.MaxText-1, api.ErrText)
	refused(t, blanks+"  ", 0, api.ErrLimit)
	refused(t, strings.Repeat("x", 10*api.MaxText), 0, api.ErrLimit)
}

// judged compares what Parse says of a string with the verdict of the machine.
func judged(t *testing.T, s string) {
	t.Helper()
	where, want := verdict(s)
	v, at, e := spell.Parse(s)
	if e != want || at != where || e != api.OK && !same(v, om) || val.Check(v) != api.OK {
		t.Errorf("Parse(%s) is %s, %d, error %d; want %d, error %d", short(s), told(v), at, e, where, want)
	}
	if e != api.ErrText {
		return
	}
	// A printed form begins with the bytes ahead of the wrong one, though perhaps one of a value that is too large.
	if _, _, e := spell.Parse(completed(s[:at])); e == api.ErrText {
		t.Errorf("Parse(%s) has an error at %d, but Parse(%s) has the error %d", short(s), at, short(completed(s[:at])), e)
	}
}

// P4.3: all short strings of some bytes.
func TestParseAll(t *testing.T) {
	var grow func(s, bytes string, more int)
	grow = func(s, bytes string, more int) {
		judged(t, s)
		for i := range bytes {
			if more > 0 && !t.Failed() {
				grow(s+bytes[i:i+1], bytes, more-1)
			}
		}
	}
	grow("", "[]{}, 1-.\"", 5)
	grow("", "\"\\n\n 1", 6)
	grow("", "[], 1<", 6)
	grow("", "0129-. ", 5)
	grow("<atom ", "019> ", 5)
	grow("[<proc 922337203685477580", "0789>] ", 4)
	for b := range 256 {
		for c := range 256 {
			judged(t, string([]byte{byte(b), byte(c)}))
		}
		for _, s := range []string{"", "[", "[1", "[1 ", "[1,", "[1, ", "{", "\"", "\"a", "\"\\", "\"a\"", "<", "<o", "<om", "<om>", "<p", "<atom", "<atom ", "<atom 1", "<proc 0", "-", "1", "1.", "1.5", "t", "tru", "true", "f", "fals", "[]", "{} "} {
			judged(t, s+string([]byte{byte(b)}))
			judged(t, s+string([]byte{byte(b)})+"]")
		}
	}
}

// loosely writes a value as it may also be read. What is deep gets no more elements.
func loosely(r *rand.Rand, v api.Val) string {
	return loose{Rand: r, more: val.Deep(v) <= 6}.text(v)
}

type loose struct {
	*rand.Rand
	more bool
}

// some repeats a string a few times, mostly not at all.
func (r loose) some(s string) string { return strings.Repeat(s, r.Intn(3)/2*r.Intn(4)) }

func (r loose) text(v api.Val) string {
	s := written(v)
	switch v.Kind {
	case api.VInt, api.VDec:
		digits, neg := strings.CutPrefix(s, "-")
		s = r.some("0") + digits
		if v.Kind == api.VDec {
			s += r.some("0")
		}
		if neg || strings.Trim(s, "0.") == "" && r.Intn(2) == 0 {
			s = "-" + s
		}
	case api.VAtom, api.VProc:
		s = s[:6] + r.some("0") + s[6:]
	case api.VTup, api.VSet:
		var parts []string
		for _, x := range r.elements(v) {
			parts = append(parts, r.some(" ")+r.text(x)+r.some(" "))
		}
		s = s[:1] + strings.Join(parts, ",") + r.some(" ") + s[len(s)-1:]
	}
	return s
}

// elements are such that the same tuple or set is made of them.
func (r loose) elements(v api.Val) []api.Val {
	l := slices.Clone(v.L)
	if r.more && r.Intn(3) == 0 {
		l = append(l, om)
	}
	if v.Kind == api.VTup {
		return l
	}
	if r.more && len(v.L) > 0 && r.Intn(2) == 0 {
		l = append(l, v.L[r.Intn(len(v.L))])
	}
	r.Shuffle(len(l), func(i, j int) { l[i], l[j] = l[j], l[i] })
	return l
}

// P4.3, P4.8: other ways to write a value.
func TestParseLoosely(t *testing.T) {
	r := rand.New(rand.NewSource(6))
	for _, v := range many(6) {
		for range 5 {
			s := " " + loosely(r, v) + "  "
			if got, at, e := spell.Parse(s); e != api.OK || at != 0 || !same(got, v) {
				t.Errorf("Parse(%s) is %s, %d, error %d; want %s", short(s), told(got), at, e, told(v))
			}
			judged(t, s)
		}
	}
}

// P4.3: strings that are damaged by chance.
func TestParseDamaged(t *testing.T) {
	r := rand.New(rand.NewSource(7))
	bytes := "[]{}, \"\\n<>tfop-.0123456789amruec\n\t\x7f\xc3"
	for _, v := range many(7) {
		for range 40 {
			s := []byte(loosely(r, v))
			for range 1 + r.Intn(3) {
				at, c := r.Intn(len(s)+1), bytes[r.Intn(len(bytes))]
				switch {
				case r.Intn(3) == 0 || at == len(s):
					s = slices.Insert(s, at, c)
				case r.Intn(2) == 0:
					s[at] = c
				default:
					s = slices.Delete(s, at, min(len(s), at+1+r.Intn(3)))
				}
			}
			judged(t, string(s))
		}
	}
	// Where it is as deep as it can be.
	for range 4000 {
		s := strings.Repeat("[", api.MaxDeep-2)
		for range r.Intn(12) {
			s += []string{"[", "[", "{", "]", "}", "1", ",", " ", "<om>", "<", "\"", "x", "-", "true", "tr"}[r.Intn(15)]
		}
		judged(t, s)
	}
}

// P4.3
func TestIsText(t *testing.T) {
	for _, v := range many(8) {
		s := written(v)
		if !spell.IsText(s) {
			t.Errorf("IsText(%s) does not hold", short(s))
		}
		for _, other := range []string{" " + s, s + " ", s + "]", s[:len(s)-1], s[:len(s)-1] + " " + s[len(s)-1:], strings.Replace(s, ", ", ",", 1)} {
			got, _, e := spell.Parse(other)
			if want := e == api.OK && written(got) == other; spell.IsText(other) != want {
				t.Errorf("IsText(%s) is %v", short(other), !want)
			}
		}
	}
	for _, s := range []string{"", " ", "1 ", " 1", "01", "-0", "-0.0", "1.50", "01.5", "00.0", "<atom 01>", "<atom 0>", "<proc 00>", "[1,2]", "[1,  2]", "[1 , 2]", "[ ]", "[1, 2 ]", "[<om>]", "[1, <om>]", "{<om>}", "{2, 1}", "{1, 1}", "{ }", "{1,2}", "{[], {}, 1}", "True", "om", "x", "\"", "a", "\"\n\"", strings.Repeat("[", 21) + strings.Repeat("]", 21), "1.000000000000000000001", "1\n"} {
		if spell.IsText(s) {
			t.Errorf("IsText(%q) holds", s)
		}
	}
	for _, s := range []string{"1", "-1", "0", "0.0", "-0.5", "true", "<om>", "<atom 1>", "<proc 0>", `""`, `"a""b\n\\"`, "[]", "{}", "[<om>, 1]", "{1, 1.0}", "[1, 2]", "{1, [], {}}", strings.Repeat("[", 20) + strings.Repeat("]", 20)} {
		if !spell.IsText(s) {
			t.Errorf("IsText(%q) does not hold", s)
		}
	}
}
