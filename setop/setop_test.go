package setop_test

import (
	"slices"
	"strconv"
	"strings"
	"testing"

	"zermelo/api"
	"zermelo/setop"
)

// graph is a map that has two values for 3.
const graph = "{[1, 2], [3, 4], [3, 5]}"

// P5.1
func TestUn(t *testing.T) {
	for _, c := range []struct {
		op   int
		a    string
		pick int
		want string
	}{
		{api.UnNeg, "5", 0, "-5"}, {api.UnNeg, "0", 0, "0"}, {api.UnNeg, "-4294967296", 0, "4294967296"}, {api.UnNeg, "0.5", 0, "-0.5"}, {api.UnNeg, "0.0", 0, "0.0"}, {api.UnNeg, `"5"`, 0, "FtType"},
		{api.UnNot, "true", 0, "false"}, {api.UnNot, "false", 0, "true"}, {api.UnNot, "1", 0, "FtType"}, {api.UnNot, "<om>", 0, "FtOm"},
		{api.UnLen, "[<om>, 1]", 0, "2"}, {api.UnLen, `"abc"`, 0, "3"}, {api.UnLen, `""`, 0, "0"}, {api.UnLen, "{5, 7}", 0, "2"}, {api.UnLen, "{}", 0, "0"}, {api.UnLen, "12", 0, "FtType"},
		{api.UnArb, "{5, 7}", -1, "7"}, {api.UnArb, "{5, 7}", 0, "5"}, {api.UnArb, "{5, 7}", 3, "7"}, {api.UnArb, "{5, 7, 9}", -4, "9"}, {api.UnArb, "{}", 0, "<om>"}, {api.UnArb, "[1]", 0, "FtType"},
		{api.UnPow, "{1, 2}", 0, "{{}, {1}, {2}, {1, 2}}"}, {api.UnPow, "{}", 0, "{{}}"}, {api.UnPow, "{{}}", 0, "{{}, {{}}}"}, {api.UnPow, "[1]", 0, "FtType"},
		{api.UnDom, graph, 0, "{1, 3}"}, {api.UnDom, "{}", 0, "{}"}, {api.UnDom, "{1}", 0, "FtMap"}, {api.UnDom, "{[1, 2, 3]}", 0, "FtMap"}, {api.UnDom, "{[<om>, 2]}", 0, "FtMap"}, {api.UnDom, "[[1, 2]]", 0, "FtType"},
		{api.UnRan, graph, 0, "{2, 4, 5}"}, {api.UnRan, "{[1, 1], [2, 1]}", 0, "{1}"}, {api.UnRan, "{1}", 0, "FtMap"}, {api.UnRan, `"ab"`, 0, "FtType"},
		{api.UnInv, graph, 0, "{[2, 1], [4, 3], [5, 3]}"}, {api.UnInv, "{}", 0, "{}"}, {api.UnInv, "{[1]}", 0, "FtMap"}, {api.UnInv, "true", 0, "FtType"},
		{api.UnAbs, "-7", 0, "7"}, {api.UnAbs, "7", 0, "7"}, {api.UnAbs, "0", 0, "0"}, {api.UnAbs, "-0.5", 0, "0.5"}, {api.UnAbs, "2.5", 0, "2.5"}, {api.UnAbs, `"a"`, 0, "97"}, {api.UnAbs, `"\n"`, 0, "10"}, {api.UnAbs, `"ab"`, 0, "FtRange"}, {api.UnAbs, `""`, 0, "FtRange"}, {api.UnAbs, "{1}", 0, "FtType"},
		{api.UnChr, "97", 0, `"a"`}, {api.UnChr, "10", 0, `"\n"`}, {api.UnChr, "32", 0, `" "`}, {api.UnChr, "126", 0, `"~"`}, {api.UnChr, "31", 0, "FtRange"}, {api.UnChr, "127", 0, "FtRange"}, {api.UnChr, "9", 0, "FtRange"}, {api.UnChr, "11", 0, "FtRange"}, {api.UnChr, "-97", 0, "FtRange"}, {api.UnChr, "0", 0, "FtRange"}, {api.UnChr, "4294967393", 0, "FtRange"}, {api.UnChr, "18446744073709551713", 0, "FtRange"}, {api.UnChr, "97.0", 0, "FtType"},
		{api.UnStr, `"a""b"`, 0, `"a""b"`}, {api.UnStr, `["a""b"]`, 0, `"[""a""""b""]"`}, {api.UnStr, "-7", 0, `"-7"`}, {api.UnStr, "true", 0, `"true"`}, {api.UnStr, "{2, 1}", 0, `"{1, 2}"`}, {api.UnStr, "<atom 3>", 0, `"<atom 3>"`}, {api.UnStr, "<proc 0>", 0, `"<proc 0>"`}, {api.UnStr, "0.50", 0, `"0.5"`}, {api.UnStr, "<om>", 0, "FtOm"},
		{api.UnFix, "-1.9", 0, "-1"}, {api.UnFix, "1.9", 0, "1"}, {api.UnFix, "-0.5", 0, "0"}, {api.UnFix, "3.0", 0, "3"}, {api.UnFix, "3", 0, "FtType"},
		{api.UnDec, "2", 0, "2.0"}, {api.UnDec, "-10", 0, "-10.0"}, {api.UnDec, "0", 0, "0.0"}, {api.UnDec, "2.0", 0, "FtType"},
		{api.UnTyp, "true", 0, `"boolean"`}, {api.UnTyp, "1", 0, `"integer"`}, {api.UnTyp, "1.0", 0, `"decimal"`}, {api.UnTyp, `""`, 0, `"string"`}, {api.UnTyp, "<atom 1>", 0, `"atom"`}, {api.UnTyp, "<proc 1>", 0, `"procedure"`}, {api.UnTyp, "[]", 0, `"tuple"`}, {api.UnTyp, "{}", 0, `"set"`}, {api.UnTyp, "<om>", 0, "FtOm"},
		{api.UnOm, "<om>", 0, "true"}, {api.UnOm, "0", 0, "false"}, {api.UnOm, "{}", 0, "false"},
		{api.UnTup, `{"", 1}`, 0, `[1, ""]`}, {api.UnTup, "{}", 0, "[]"}, {api.UnTup, "[1]", 0, "FtType"},
		{api.UnElt, "[<om>, 2, 1, 2]", 0, "{1, 2}"}, {api.UnElt, `"aba"`, 0, `{"a", "b"}`}, {api.UnElt, `""`, 0, "{}"}, {api.UnElt, "[]", 0, "{}"}, {api.UnElt, "{1}", 0, "FtType"},
		{0, "1", 0, "FtType"}, {18, "1", 0, "FtType"}, {-1, "<om>", 0, "FtType"}, {18, "<om>", 0, "FtType"},
	} {
		got, fault := setop.Un(c.op, v(c.a), c.pick)
		expect(t, "Un "+strconv.Itoa(c.op)+" of "+c.a, got, fault, c.want)
	}
}

// P5.2
func TestBin(t *testing.T) {
	for _, c := range []struct {
		op         int
		a, b, want string
	}{
		{api.BiAdd, "2", "-3", "-1"}, {api.BiAdd, "0.1", "0.2", "0.3"}, {api.BiAdd, `"a"`, `"b"`, `"ab"`}, {api.BiAdd, "[1, 2]", "[<om>, 3]", "[1, 2, <om>, 3]"}, {api.BiAdd, "[]", "[]", "[]"}, {api.BiAdd, "{1}", "{2}", "{1, 2}"}, {api.BiAdd, "1", "1.0", "FtType"}, {api.BiAdd, "true", "true", "FtType"},
		{api.BiSub, "2", "3", "-1"}, {api.BiSub, "0.1", "0.1", "0.0"}, {api.BiSub, "{1, 2}", "{2, 3}", "{1}"}, {api.BiSub, `"a"`, `"a"`, "FtType"}, {api.BiSub, "[1]", "[1]", "FtType"}, {api.BiSub, "{1}", "[1]", "FtType"},
		{api.BiMul, "-2", "3", "-6"}, {api.BiMul, "2", "[1, 2]", "[1, 2, 1, 2]"}, {api.BiMul, "[<om>, 1]", "2", "[<om>, 1, <om>, 1]"}, {api.BiMul, "3", `"ab"`, `"ababab"`}, {api.BiMul, `"ab"`, "0", `""`}, {api.BiMul, "0", "[1]", "[]"}, {api.BiMul, `"ab"`, "-1", "FtRange"}, {api.BiMul, "-1", `""`, "FtRange"}, {api.BiMul, "-18446744073709551616", "[]", "FtRange"}, {api.BiMul, "18446744073709551616", "[]", "[]"}, {api.BiMul, `""`, "9223372036854775808", `""`},
		{api.BiMul, "0.00000000001", "0.00000000005", "0.0"}, {api.BiMul, "1.5", "1.5", "2.25"}, {api.BiMul, "{1, 2}", "{2, 3}", "{2}"}, {api.BiMul, "2", "{1}", "FtType"}, {api.BiMul, "2", "1.0", "FtType"}, {api.BiMul, `"a"`, `"a"`, "FtType"}, {api.BiMul, "{1}", "2", "FtType"}, {api.BiMul, "1.0", "2", "FtType"}, {api.BiMul, "[]", "[]", "FtType"},
		{api.BiDiv, "1.0", "3.0", "0.33333333333333333333"}, {api.BiDiv, "2.0", "-3.0", "-0.66666666666666666667"}, {api.BiDiv, "1.0", "0.0", "FtZero"}, {api.BiDiv, "1", "2", "FtType"}, {api.BiDiv, "1.0", "0", "FtType"},
		{api.BiQuo, "-7", "2", "-4"}, {api.BiQuo, "7", "-2", "-4"}, {api.BiQuo, "-7", "-2", "3"}, {api.BiQuo, "0", "5", "0"}, {api.BiQuo, "1", "0", "FtZero"}, {api.BiQuo, "1.0", "1.0", "FtType"},
		{api.BiMod, "-7", "2", "1"}, {api.BiMod, "7", "-2", "-1"}, {api.BiMod, "6", "-2", "0"}, {api.BiMod, "0", "0", "FtZero"}, {api.BiMod, "{1, 2}", "{2, 3}", "{1, 3}"}, {api.BiMod, "{1}", "{1}", "{}"}, {api.BiMod, "7.0", "2.0", "FtType"}, {api.BiMod, "{1}", "1", "FtType"},
		{api.BiPow, "2", "10", "1024"}, {api.BiPow, "-2", "3", "-8"}, {api.BiPow, "0", "0", "1"}, {api.BiPow, "1", "9600", "1"}, {api.BiPow, "-1", "9599", "-1"}, {api.BiPow, "1", "9601", "FtLimit"}, {api.BiPow, "0", "18446744073709551616", "FtLimit"}, {api.BiPow, "2", "-1", "FtRange"}, {api.BiPow, "0", "-18446744073709551616", "FtRange"}, {api.BiPow, "2", "0.5", "FtType"},
		{api.BiPow, "1.5", "3", "3.375"}, {api.BiPow, "2.0", "-2", "0.25"}, {api.BiPow, "0.0", "0", "1.0"}, {api.BiPow, "0.0", "-1", "FtZero"}, {api.BiPow, "0.0", "-9601", "FtLimit"}, {api.BiPow, "0.0", "9601", "FtLimit"}, {api.BiPow, "1.0", "18446744073709551616", "FtLimit"}, {api.BiPow, "1.0", "2800", "1.0"}, {api.BiPow, "1.0", "-2801", "FtLimit"}, {api.BiPow, "0.0", "2801", "FtLimit"}, {api.BiPow, "0.0", "-2801", "FtZero"}, {api.BiPow, "2.0", "2.0", "FtType"}, {api.BiPow, "{1}", "2", "FtType"},
		{api.BiEq, "<om>", "<om>", "true"}, {api.BiEq, "<om>", "0", "false"}, {api.BiEq, "1", "1.0", "false"}, {api.BiEq, "{1, [2]}", "{[2], 1}", "true"}, {api.BiNe, "<om>", "0", "true"}, {api.BiNe, "<om>", "<om>", "false"}, {api.BiNe, `"a"`, `"a"`, "false"}, {api.BiEq, "<proc 1>", "<proc 1>", "true"}, {api.BiEq, "<atom 1>", "<proc 1>", "false"},
		{api.BiLt, "1", "2", "true"}, {api.BiLt, "2", "2", "false"}, {api.BiLe, "2", "2", "true"}, {api.BiLe, "3", "2", "false"}, {api.BiGt, "2", "-2", "true"}, {api.BiGt, "2", "2", "false"}, {api.BiGe, "2", "2", "true"}, {api.BiGe, "1", "2", "false"}, {api.BiLt, "0.25", "0.3", "true"}, {api.BiGe, "-0.25", "-0.3", "true"}, {api.BiLt, `"a"`, `"aa"`, "true"}, {api.BiGt, `"b"`, `"ab"`, "true"}, {api.BiLt, "1", "2.0", "FtType"}, {api.BiLt, "true", "false", "FtType"}, {api.BiGe, "[1]", "[1]", "FtType"}, {api.BiLe, "{}", "{1}", "FtType"}, {api.BiGt, "<atom 2>", "<atom 1>", "FtType"},
		{api.BiIn, `"b"`, `"abc"`, "true"}, {api.BiIn, `"bc"`, `"abc"`, "false"}, {api.BiIn, `""`, `"abc"`, "false"}, {api.BiIn, "1", `"1"`, "false"}, {api.BiIn, "2", "[1, <om>, 2]", "true"}, {api.BiIn, "3", "[1, <om>, 2]", "false"}, {api.BiIn, "[2]", "{1, [2]}", "true"}, {api.BiIn, "2", "{1, [2]}", "false"}, {api.BiIn, "<om>", "[<om>, 1]", "FtOm"}, {api.BiIn, "1", "1", "FtType"}, {api.BiIn, "1", "<om>", "FtOm"},
		{api.BiNotin, `"b"`, `"abc"`, "false"}, {api.BiNotin, `"bc"`, `"abc"`, "true"}, {api.BiNotin, "1", "[2]", "true"}, {api.BiNotin, "1", "{1}", "false"}, {api.BiNotin, "1", "true", "FtType"},
		{api.BiSubs, "{1}", "{1, 2}", "true"}, {api.BiSubs, "{1, 3}", "{1, 2}", "false"}, {api.BiSubs, "{}", "{}", "true"}, {api.BiIncs, "{1}", "{1, 2}", "false"}, {api.BiIncs, "{1, 2}", "{2}", "true"}, {api.BiSubs, "{1}", "[1]", "FtType"}, {api.BiIncs, "1", "{1}", "FtType"},
		{api.BiWith, "[1]", "1", "[1, 1]"}, {api.BiWith, "[]", "[]", "[[]]"}, {api.BiWith, "{1}", "1", "{1}"}, {api.BiWith, "{2}", "{}", "{2, {}}"}, {api.BiWith, "[1]", "<om>", "FtOm"}, {api.BiWith, "{1}", "<om>", "FtOm"}, {api.BiWith, `"a"`, `"b"`, "FtType"},
		{api.BiLess, "{1}", "2", "{1}"}, {api.BiLess, "{1, 2}", "1", "{2}"}, {api.BiLess, "{1}", "<om>", "FtOm"}, {api.BiLess, "[1]", "1", "FtType"},
		{api.BiLessf, graph, "3", "{[1, 2]}"}, {api.BiLessf, graph, "2", graph}, {api.BiLessf, "{}", "2", "{}"}, {api.BiLessf, "{[[1, 2], 3], [1, 2]}", "[1, 2]", "{[1, 2]}"}, {api.BiLessf, "{1}", "1", "FtMap"}, {api.BiLessf, "{1}", "<om>", "FtOm"}, {api.BiLessf, "[1]", "1", "FtType"},
		{api.BiNpow, "{1, 2, 3}", "2", "{{1, 2}, {1, 3}, {2, 3}}"}, {api.BiNpow, "{1, 2, 3}", "0", "{{}}"}, {api.BiNpow, "{1, 2, 3}", "3", "{{1, 2, 3}}"}, {api.BiNpow, "{1, 2, 3}", "4", "{}"}, {api.BiNpow, "{1}", "18446744073709551616", "{}"}, {api.BiNpow, "{}", "0", "{{}}"}, {api.BiNpow, "{1}", "-1", "FtRange"}, {api.BiNpow, "{1}", "-18446744073709551616", "FtRange"}, {api.BiNpow, "{1}", "1.0", "FtType"}, {api.BiNpow, "[1]", "1", "FtType"},
		{api.BiMax, `"a"`, `"b"`, `"b"`}, {api.BiMin, `"a"`, `"b"`, `"a"`}, {api.BiMax, "3", "-4", "3"}, {api.BiMin, "3", "-4", "-4"}, {api.BiMax, "0.25", "0.3", "0.3"}, {api.BiMin, "0.25", "0.3", "0.25"}, {api.BiMax, "2", "2", "2"}, {api.BiMax, "1", "2.0", "FtType"}, {api.BiMin, "{1}", "{2}", "FtType"}, {api.BiMax, "true", "true", "FtType"},
		{api.BiAnd, "true", "false", "false"}, {api.BiAnd, "true", "true", "true"}, {api.BiOr, "true", "false", "true"}, {api.BiOr, "false", "true", "true"}, {api.BiOr, "false", "false", "false"}, {api.BiAnd, "false", "<om>", "FtOm"}, {api.BiOr, "true", "1", "FtType"}, {api.BiAnd, "1", "true", "FtType"},
		{0, "1", "1", "FtType"}, {26, "1", "1", "FtType"}, {-3, "<om>", "1", "FtType"},
	} {
		got, fault := setop.Bin(c.op, v(c.a), v(c.b))
		expect(t, "Bin "+strconv.Itoa(c.op)+" of "+c.a+" and "+c.b, got, fault, c.want)
	}
}

// P5.3: the lists have an om at their end for each ; there.
func TestLists(t *testing.T) {
	for _, c := range []struct{ l, tup, set string }{
		{"", "[]", "{}"}, {";;", "[]", "{}"}, {"<om>, 1;", "[<om>, 1]", "{1}"}, {"2, <om>, 1, 2", "[2, <om>, 1, 2]", "{1, 2}"}, {`"b", "a", 1.0, 1`, `["b", "a", 1.0, 1]`, `{1, 1.0, "a", "b"}`},
		{"[2, 1], {2, 1};;", "[[2, 1], {1, 2}]", "{[2, 1], {1, 2}}"}, {"<atom 2>, <proc 0>", "[<atom 2>, <proc 0>]", "{<atom 2>, <proc 0>}"},
	} {
		got, fault := setop.Tup(list(c.l))
		expect(t, "Tup of "+c.l, got, fault, c.tup)
		got, fault = setop.Set(list(c.l))
		expect(t, "Set of "+c.l, got, fault, c.set)
	}
	got, fault := setop.Tup(nil)
	expect(t, "Tup of nil", got, fault, "[]")
}

// P5.4
func TestRange(t *testing.T) {
	for _, c := range []struct {
		kind    int
		l, want string
	}{
		{api.VTup, "5, 3, 0", "[5, 3, 1]"}, {api.VSet, "1, 3", "{1, 2, 3}"}, {api.VTup, "3, 1", "[]"}, {api.VSet, "3, 1", "{}"}, {api.VTup, "2, 2", "[2]"}, {api.VTup, "1, 3, 8", "[1, 3, 5, 7]"}, {api.VTup, "1, 3, 7", "[1, 3, 5, 7]"}, {api.VSet, "5, 3, 0", "{1, 3, 5}"}, {api.VTup, "-1, 1", "[-1, 0, 1]"},
		{api.VTup, "1, 2, 1", "[1]"}, {api.VTup, "1, 5, 2", "[1]"}, {api.VTup, "1, 5, 0", "[]"}, {api.VTup, "1, -5, 2", "[]"}, {api.VTup, "1, -5, 1", "[1]"}, {api.VTup, "4294967295, 4294967297", "[4294967295, 4294967296, 4294967297]"}, {api.VSet, "18446744073709551615, 18446744073709551616", "{18446744073709551615, 18446744073709551616}"},
		{api.VTup, "1, 1, 3", "FtRange"}, {api.VSet, "1, 1, 0", "FtRange"}, {api.VTup, "1, 3000", "FtLimit"}, {api.VTup, "1, 100000000000000000000000", "FtLimit"}, {api.VTup, "1, 2, 100000000000000000000000", "FtLimit"}, {api.VTup, "1, 0, -18446744073709551616", "FtLimit"}, {api.VTup, "9223372036854775807, -9223372036854775809", "[]"}, {api.VTup, "100000000000000000000, -100000000000000000000", "[]"},
		{api.VTup, "", "FtType"}, {api.VTup, "1", "FtType"}, {api.VTup, ";", "FtType"}, {api.VTup, "1;", "FtOm"}, {api.VTup, ";;", "FtOm"}, {api.VTup, "1, 2.0", "FtType"}, {api.VTup, "true, <om>, 3", "FtType"}, {api.VTup, "1, <om>, true", "FtOm"}, {api.VTup, "1, 2, 3, 4", "FtType"}, {api.VTup, "1, 2, 3;", "FtOm"}, {api.VTup, "1, 1, 3, 4", "FtType"}, {api.VTup, "1, 2, 3, 4;", "FtType"}, {api.VTup, `1, "", 3;`, "FtType"},
		{api.VInt, "1, 2", "FtType"}, {api.VStr, ";;", "FtType"}, {api.VOm, "1, 2", "FtType"}, {-8, "1, 2", "FtType"},
	} {
		got, fault := setop.Range(c.kind, list(c.l))
		expect(t, "Range of the Kind "+strconv.Itoa(c.kind)+" of "+c.l, got, fault, c.want)
	}
}

// P5.5
func TestSelAndImg(t *testing.T) {
	for _, c := range []struct{ a, l, sel, img string }{
		{graph, "1", "2", "{2}"}, {graph, "3", "<om>", "{4, 5}"}, {graph, "7", "<om>", "{}"}, {"{}", "1", "<om>", "{}"}, {"{[[1, 2], 8]}", "1, 2", "8", "{8}"}, {"{[[1, 2], 8]}", "[1, 2]", "8", "{8}"}, {"{[[[1, 2]], 8]}", "[1, 2]", "<om>", "{}"}, {"{[[1, [2]], 8]}", "1, [2]", "8", "{8}"}, {`{["k", {1}], [1.0, 2]}`, `"k"`, "{1}", "{{1}}"}, {`{["k", {1}], [1.0, 2]}`, "1", "<om>", "{}"},
		{"{1}", "1", "FtMap", "FtMap"}, {"{[1, 2, 3]}", "1", "FtMap", "FtMap"}, {"{1}", ";", "FtOm", "FtOm"}, {graph, "1;", "FtOm", "FtOm"}, {graph, "<om>, 1", "FtOm", "FtOm"}, {graph, "", "FtType", "FtType"}, {"<om>", "", "FtType", "FtType"}, {"<om>", "1", "FtOm", "FtOm"}, {"5", "1", "FtType", "FtType"}, {"5", ";", "FtType", "FtType"},
		{"[7]", "1", "7", "FtType"}, {"[7]", "2", "<om>", "FtType"}, {"[7]", "0", "FtRange", "FtType"}, {"[7]", "-1", "FtRange", "FtType"}, {"[7]", "18446744073709551617", "<om>", "FtType"}, {"[7]", "-18446744073709551615", "FtRange", "FtType"}, {"[<om>, 7]", "1", "<om>", "FtType"}, {"[[1, {2}]]", "1", "[1, {2}]", "FtType"}, {"[7]", "1.0", "FtType", "FtType"}, {"[7]", ";", "FtOm", "FtType"}, {"[7]", "1, 1", "FtType", "FtType"}, {"[7]", "1;", "FtOm", "FtType"}, {"[7]", "true;", "FtType", "FtType"}, {"[7]", "0, 1", "FtType", "FtType"}, {"[]", "", "FtType", "FtType"},
		{`"abc"`, "1", `"a"`, "FtType"}, {`"abc"`, "3", `"c"`, "FtType"}, {`"abc"`, "4", "<om>", "FtType"}, {`"abc"`, "0", "FtRange", "FtType"}, {`"abc"`, `"a"`, "FtType", "FtType"}, {`"abc"`, "2, 2", "FtType", "FtType"}, {`""`, "1", "<om>", "FtType"},
	} {
		got, fault := setop.Sel(v(c.a), list(c.l))
		expect(t, "Sel of "+c.a+" and "+c.l, got, fault, c.sel)
		got, fault = setop.Img(v(c.a), list(c.l))
		expect(t, "Img of "+c.a+" and "+c.l, got, fault, c.img)
	}
}

// P5.6
func TestSlice(t *testing.T) {
	for _, c := range []struct{ a, l, want string }{
		{`"abc"`, "2, 1", `""`}, {`"abc"`, "5", "FtRange"}, {`"abc"`, "4", `""`}, {`"abc"`, "1", `"abc"`}, {`"abc"`, "2", `"bc"`}, {`"abc"`, "2, 2", `"b"`}, {`"abc"`, "1, 3", `"abc"`}, {`"abc"`, "0, 1", "FtRange"}, {`"abc"`, "1, 4", "FtRange"}, {`"abc"`, "3, 1", "FtRange"}, {`"abc"`, "4, 3", `""`}, {`"abc"`, "5, 4", "FtRange"}, {`"abc"`, "1, 0", `""`}, {`"abc"`, "1, -1", "FtRange"}, {`"abc"`, "18446744073709551617", "FtRange"}, {`"abc"`, "1, 18446744073709551617", "FtRange"}, {`"abc"`, "-18446744073709551615, 1", "FtRange"}, {`""`, "1", `""`}, {`""`, "1, 0", `""`}, {`""`, "2", "FtRange"},
		{"[1, <om>, 3]", "1, 2", "[1]"}, {"[1, <om>, 3]", "2", "[<om>, 3]"}, {"[1, <om>, 3]", "2, 2", "[]"}, {"[1, <om>, 3]", "4", "[]"}, {"[1, <om>, 3]", "1, 3", "[1, <om>, 3]"}, {"[1, <om>, 3]", "1, 4", "FtRange"}, {"[1]", "0", "FtRange"},
		{"[1]", "", "FtType"}, {"<om>", "", "FtType"}, {"<om>", "1", "FtOm"}, {"{1}", "1", "FtType"}, {"{1}", ";", "FtType"}, {"[1]", ";", "FtOm"}, {"[1]", "1;", "FtOm"}, {"[1]", "1.0", "FtType"}, {"[1]", "1, true", "FtType"}, {"[1]", "true;", "FtType"}, {"[1]", "1, 1, 1", "FtType"}, {"[1]", "1, 1;", "FtOm"}, {"[1]", "9, 9, 9", "FtType"}, {"[1]", "9, 9;", "FtOm"},
	} {
		got, fault := setop.Slice(v(c.a), list(c.l))
		expect(t, "Slice of "+c.a+" and "+c.l, got, fault, c.want)
	}
}

// P5.7
func TestPut(t *testing.T) {
	for _, c := range []struct{ a, l, b, want string }{
		{"<om>", "3", "7", "[<om>, <om>, 7]"}, {"<om>", `"k"`, "7", `{["k", 7]}`}, {"<om>", "3", "<om>", "[]"}, {"<om>", `"k"`, "<om>", "{}"}, {"<om>", "1, 2", "3", "{[[1, 2], 3]}"}, {"<om>", "3.0", "7", "{[3.0, 7]}"}, {"<om>", "0", "7", "FtRange"}, {"<om>", ";", "7", "FtOm"}, {"<om>", "1;", "7", "FtOm"}, {"<om>", "", "7", "FtType"},
		{`"abc"`, "2", `"x"`, `"axc"`}, {`"abc"`, "1", `"x"`, `"xbc"`}, {`"abc"`, "3", `"x"`, `"abx"`}, {`"abc"`, "4", `"x"`, "FtRange"}, {`"abc"`, "0", `"x"`, "FtRange"}, {`""`, "1", `"x"`, "FtRange"}, {`"abc"`, "18446744073709551617", `"x"`, "FtRange"}, {`"abc"`, "2", `"xy"`, "FtType"}, {`"abc"`, "2", `""`, "FtType"}, {`"abc"`, "2", "<om>", "FtType"}, {`"abc"`, "2", "1", "FtType"}, {`"abc"`, ";", "<om>", "FtType"}, {`"abc"`, ";", `"x"`, "FtOm"}, {`"abc"`, "2, 2", `"x"`, "FtType"}, {`"abc"`, "2;", `"x"`, "FtOm"}, {`"abc"`, "9", "1", "FtType"},
		{"[1, 2]", "2", "<om>", "[1]"}, {"[1, 2]", "1", "<om>", "[<om>, 2]"}, {"[1, 2]", "1", "[3]", "[[3], 2]"}, {"[1, 2]", "3", "3", "[1, 2, 3]"}, {"[1, 2]", "5", "3", "[1, 2, <om>, <om>, 3]"}, {"[1, 2]", "3", "<om>", "[1, 2]"}, {"[1, 2]", "3000", "<om>", "[1, 2]"}, {"[<om>, 2]", "2", "<om>", "[]"}, {"[1, 2]", "0", "3", "FtRange"}, {"[1, 2]", "-1", "3", "FtRange"}, {"[1, 2]", "3001", "<om>", "FtRange"}, {"[1, 2]", "18446744073709551617", "3", "FtRange"}, {"[1, 2]", `"k"`, "3", "FtType"}, {"[1, 2]", "1, 1", "3", "FtType"}, {"[1, 2]", "9;", "3", "FtOm"}, {"[1, 2]", ";", "3", "FtOm"}, {"[1, 2]", ";", "<om>", "FtOm"}, {"[1, 2]", "", "<om>", "FtType"},
		{graph, "3", "<om>", "{[1, 2]}"}, {graph, "3", "9", "{[1, 2], [3, 9]}"}, {graph, "1", "2", graph}, {graph, "0", "{}", "{[0, {}], [1, 2], [3, 4], [3, 5]}"}, {graph, "1, 2", "9", "{[1, 2], [3, 4], [3, 5], [[1, 2], 9]}"}, {"{}", "[1]", "9", "{[[1], 9]}"}, {"{1}", "1", "9", "FtMap"}, {"{1}", ";", "9", "FtOm"}, {graph, "1;", "9", "FtOm"}, {graph, "", "9", "FtType"},
		{"5", "1", "9", "FtType"}, {"5", ";", "<om>", "FtType"}, {"true", "1", "<om>", "FtType"},
	} {
		got, fault := setop.Put(v(c.a), list(c.l), v(c.b))
		expect(t, "Put of "+c.a+", "+c.l+" and "+c.b, got, fault, c.want)
	}
}

// P5.8
func TestPutImg(t *testing.T) {
	for _, c := range []struct{ a, l, b, want string }{
		{graph, "1", "{6, 7}", "{[1, 6], [1, 7], [3, 4], [3, 5]}"}, {graph, "3", "{}", "{[1, 2]}"}, {graph, "0", "{{}, 1}", "{[0, 1], [0, {}], [1, 2], [3, 4], [3, 5]}"}, {graph, "1, 2", "{9}", "{[1, 2], [3, 4], [3, 5], [[1, 2], 9]}"}, {"{}", "1", "{}", "{}"}, {"{[1, 2]}", "9", "{}", "{[1, 2]}"},
		{"{1}", "1", "{}", "FtMap"}, {"{[1, 2], [3]}", "1", "{}", "FtMap"}, {"<om>", "1", "{}", "FtOm"}, {"[1]", "1", "{}", "FtType"}, {"[1]", ";", "<om>", "FtType"}, {graph, "1", "<om>", "FtOm"}, {graph, "1", "[1]", "FtType"}, {graph, ";", "[1]", "FtType"}, {"{1}", ";", "{}", "FtOm"}, {graph, "1;", "{}", "FtOm"}, {"{1}", "1", "1", "FtType"}, {graph, "", "{}", "FtType"}, {"<om>", "", "{}", "FtType"},
	} {
		got, fault := setop.PutImg(v(c.a), list(c.l), v(c.b))
		expect(t, "PutImg of "+c.a+", "+c.l+" and "+c.b, got, fault, c.want)
	}
}

// P5.8
func TestPutSlice(t *testing.T) {
	for _, c := range []struct{ a, l, b, want string }{
		{`"abc"`, "2, 2", `"xyz"`, `"axyzc"`}, {`"abc"`, "2, 1", `"xyz"`, `"axyzbc"`}, {`"abc"`, "2", `"x"`, `"ax"`}, {`"abc"`, "4", `"x"`, `"abcx"`}, {`"abc"`, "1, 3", `""`, `""`}, {`""`, "1, 0", `"x"`, `"x"`}, {`"abc"`, "5", `"x"`, "FtRange"}, {`"abc"`, "0, 1", `"x"`, "FtRange"}, {`"abc"`, "3, 1", `"x"`, "FtRange"}, {`"abc"`, "1, 4", `"x"`, "FtRange"}, {`"abc"`, "1", "[]", "FtType"}, {`"abc"`, "1", "<om>", "FtOm"}, {`"abc"`, "18446744073709551617", `"x"`, "FtRange"},
		{"[1, 2, 3]", "2, 3", "[9, <om>, 8, 7]", "[1, 9, <om>, 8, 7]"}, {"[1, <om>, 3]", "3, 3", "[]", "[1]"}, {"[1, <om>, 3]", "3", "[]", "[1]"}, {"[1, <om>, 3]", "1, 1", "[]", "[<om>, 3]"}, {"[]", "1", "[1]", "[1]"}, {"[1]", "2", "[<om>, 1]", "[1, <om>, 1]"}, {"[1]", "3", "[1]", "FtRange"}, {"[1]", "1", `"x"`, "FtType"},
		{"<om>", "1", "[]", "FtOm"}, {"{1}", "1", "{}", "FtType"}, {"5", ";", "5", "FtType"}, {"[1]", "", "[1]", "FtType"}, {"<om>", "", "<om>", "FtType"}, {"[1]", ";", "[1]", "FtOm"}, {"[1]", ";", "{1}", "FtType"}, {"[1]", "1;", "[1]", "FtOm"}, {"[1]", "1, 1, 1", "[1]", "FtType"}, {"[1]", "9, 9;", "[1]", "FtOm"}, {"[1]", "true", "[1]", "FtType"},
	} {
		got, fault := setop.PutSlice(v(c.a), list(c.l), v(c.b))
		expect(t, "PutSlice of "+c.a+", "+c.l+" and "+c.b, got, fault, c.want)
	}
}

// P5.9
func TestFrom(t *testing.T) {
	for _, c := range []struct {
		way     int
		a       string
		pick    int
		x, rest string
	}{
		{api.FrLast, "[<om>, 1]", 0, "1", "[]"}, {api.FrFirst, "[<om>, 1]", 0, "<om>", "[1]"}, {api.FrFirst, "[1, <om>, 2]", 5, "1", "[<om>, 2]"}, {api.FrLast, "[1, 2]", -1, "2", "[1]"}, {api.FrFirst, "[7]", 0, "7", "[]"}, {api.FrFirst, "[]", 0, "<om>", "[]"}, {api.FrLast, "[]", 0, "<om>", "[]"}, {api.FrLast, "[1, <om>, <om>, 2]", 0, "2", "[1]"},
		{api.FrFirst, `"abc"`, 0, `"a"`, `"bc"`}, {api.FrLast, `"abc"`, 0, `"c"`, `"ab"`}, {api.FrLast, `"a"`, 0, `"a"`, `""`}, {api.FrFirst, `""`, 0, "<om>", `""`}, {api.FrLast, `""`, 0, "<om>", `""`},
		{api.FrArb, "{4, 6}", 1, "6", "{4}"}, {api.FrArb, "{4, 6}", 4, "4", "{6}"}, {api.FrArb, "{4, 6}", -1, "6", "{4}"}, {api.FrArb, "{4, 6, 8}", -9, "4", "{6, 8}"}, {api.FrArb, "{}", 3, "<om>", "{}"},
		{api.FrArb, "[1]", 0, "FtType", ""}, {api.FrFirst, "{1}", 0, "FtType", ""}, {api.FrLast, "{1}", 0, "FtType", ""}, {api.FrLast, "5", 0, "FtType", ""}, {api.FrArb, `"a"`, 0, "FtType", ""}, {api.FrArb, "<om>", 0, "FtOm", ""}, {api.FrFirst, "<om>", 0, "FtOm", ""}, {3, "<om>", 0, "FtType", ""}, {-1, "{1}", 0, "FtType", ""},
	} {
		x, rest, fault := setop.From(c.way, v(c.a), c.pick)
		call := "From " + strconv.Itoa(c.way) + " of " + c.a
		expect(t, call, x, fault, c.x)
		if c.rest != "" {
			expect(t, call+" (rest)", rest, fault, c.rest)
		} else if !same(rest, om) {
			t.Errorf("%s has the rest %s", call, told(rest))
		}
	}
}

// P5.10: what is left, as the elements of a tuple, and the first thing of it that is taken by a number.
func TestBeginAndNext(t *testing.T) {
	for _, c := range []struct {
		kind       int
		a          string
		any        bool
		left       string
		pick       int
		x, y, rest string
	}{
		{api.ItElem, "{7, 5}", true, "5, 7", -1, "7", "<om>", "5"}, {api.ItElem, "{7, 5}", true, "5, 7", 4, "5", "<om>", "7"}, {api.ItElem, "[7, <om>, 5]", false, "7, 5", 1, "7", "<om>", "5"}, {api.ItElem, `"ab"`, false, `"a", "b"`, 1, `"a"`, "<om>", `"b"`}, {api.ItElem, "{[1, 2]}", true, "[1, 2]", 0, "[1, 2]", "<om>", ""}, {api.ItElem, `"aa"`, false, `"a", "a"`, 0, `"a"`, "<om>", `"a"`},
		{api.ItMap, graph, true, "[1, 2]", 5, "1", "2", ""}, {api.ItMap, "{[2, 5], [1, 9], [2, 4], [0, {}]}", true, "[0, {}], [1, 9]", 1, "1", "9", "[0, {}]"}, {api.ItMap, "[9, <om>, 8]", false, "[1, 9], [3, 8]", 1, "1", "9", "[3, 8]"}, {api.ItMap, `"ba"`, false, `[1, "b"], [2, "a"]`, 7, "1", `"b"`, `[2, "a"]`},
		{api.ItImage, graph, true, "[1, {2}], [3, {4, 5}]", -1, "3", "{4, 5}", "[1, {2}]"}, {api.ItImage, graph, true, "[1, {2}], [3, {4, 5}]", 2, "1", "{2}", "[3, {4, 5}]"},
	} {
		call := "of " + strconv.Itoa(c.kind) + " over " + c.a
		it, fault := setop.Begin(c.kind, v(c.a))
		if fault != 0 || it.Kind != c.kind || it.Any != c.any || !slices.EqualFunc(it.Left, list(c.left), same) {
			t.Errorf("Begin %s is %v of %s, fault %s", call, it.Any, toldAll(it.Left), faults[fault])
			continue
		}
		x, y, rest, ok := setop.Next(it, c.pick)
		if !ok || !same(x, v(c.x)) || !same(y, v(c.y)) || rest.Kind != c.kind || rest.Any != c.any || !slices.EqualFunc(rest.Left, list(c.rest), same) {
			t.Errorf("Next %s is %s, %s, %v of %s, %v", call, told(x), told(y), rest.Any, toldAll(rest.Left), ok)
		}
	}
}

// P5.10
func TestBeginFaults(t *testing.T) {
	for _, c := range []struct {
		kind int
		a    string
		want string
	}{
		{api.ItElem, "5", "FtType"}, {api.ItElem, "<om>", "FtOm"}, {api.ItElem, "<atom 1>", "FtType"}, {api.ItMap, "{1}", "FtMap"}, {api.ItMap, "{[1, 2], [1, <om>, 2]}", "FtMap"}, {api.ItMap, "true", "FtType"}, {api.ItMap, "<om>", "FtOm"},
		{api.ItImage, "{1}", "FtMap"}, {api.ItImage, "[[1, 2]]", "FtType"}, {api.ItImage, `"a"`, "FtType"}, {api.ItImage, "<om>", "FtOm"}, {3, "<om>", "FtType"}, {-1, "{1}", "FtType"},
	} {
		it, fault := setop.Begin(c.kind, v(c.a))
		if faults[fault] != c.want || it.Kind != 0 || it.Any || len(it.Left) != 0 {
			t.Errorf("Begin of %d over %s is %v, fault %s; want %s", c.kind, c.a, it, faults[fault], c.want)
		}
	}
}

// P5.10
func TestNextOfNone(t *testing.T) {
	for _, kind := range []int{api.ItElem, api.ItMap, api.ItImage} {
		for _, a := range []string{"{}", "[]", `""`} {
			it, fault := setop.Begin(kind, v(a))
			if kind == api.ItImage && a != "{}" {
				continue
			}
			if fault != 0 || it.Kind != kind || it.Any != (a == "{}") || len(it.Left) != 0 {
				t.Errorf("Begin of %d over %s is %v, fault %s", kind, a, it, faults[fault])
			}
			for _, pick := range []int{0, 1, -1} {
				x, y, rest, ok := setop.Next(it, pick)
				if ok || !same(x, om) || !same(y, om) || rest.Kind != 0 || rest.Any || len(rest.Left) != 0 {
					t.Errorf("Next of %d over %s is %s, %s, %v, %v", kind, a, told(x), told(y), rest, ok)
				}
			}
		}
	}
}

// P5.10: an iterator over a string may have more left than a tuple of that could have.
func TestIteratorsOfStrings(t *testing.T) {
	s := strings.Repeat("ab\n", 300)
	it, fault := setop.Begin(api.ItMap, str(s))
	if fault != 0 || len(it.Left) != len(s) {
		t.Fatalf("%d are left, fault %s", len(it.Left), faults[fault])
	}
	for i, pair := range it.Left {
		if !same(pair, tuple(integer(i+1), str(s[i:i+1]))) {
			t.Errorf("the pair %d is %s", i, told(pair))
		}
	}
}
