package show_test

import (
	"slices"
	"testing"

	"zermelo/api"
	"zermelo/show"
)

// P9.1, P9.4: the examples of the chapter, and the rules for parentheses case by case.
func TestExpr(t *testing.T) {
	a, b, c, s := name("a"), name("b"), name("c"), name("s")
	one, two := number("1"), number("2")
	bin, un := func(n int, x, y api.Node) api.Node { return node(api.NdBin, n, x, y) }, func(n int, x api.Node) api.Node { return node(api.NdUn, n, x) }
	neg := func(x api.Node) api.Node { return un(api.UnNeg, x) }
	overS := node(api.NdIters, 0, node(api.NdIn, 0, a, s))
	exists := node(api.NdQuant, api.QtExists, overS, b)
	over := node(api.NdFold, api.BiDiv, s)
	for _, x := range []struct {
		n     api.Node
		want  string
		pairs int
	}{
		{bin(api.BiMul, bin(api.BiAdd, a, b), c), "(a + b) * c", 1},
		{neg(neg(two)), "- -2", 0},
		{neg(bin(api.BiPow, two, two)), "-2 ** 2", 0},
		{node(api.NdFold, api.BiAdd, number("0"), s), "0 +/ s", 0},
		{node(api.NdFormer, api.VSet, a, overS, bin(api.BiGt, a, one)), "{a in s | a > 1}", 0},

		{node(api.NdFormer, api.VTup, a, overS, bin(api.BiGt, a, one)), "[a in s | a > 1]", 0},
		{node(api.NdFormer, api.VSet, a, overS, node(api.NdNone, 0)), "{a : a in s}", 0},
		{node(api.NdFormer, api.VSet, b, overS, c), "{b : a in s | c}", 0},
		{node(api.NdFormer, api.VSet, a, node(api.NdIters, 0, node(api.NdIn, 0, a, s), node(api.NdIn, 0, b, s)), c), "{a : a in s, b in s | c}", 0},
		{node(api.NdFormer, api.VSet, a, node(api.NdIters, 0, node(api.NdAt, 0, a, s, b)), c), "{a : a = s(b) | c}", 0},
		{node(api.NdFormer, api.VSet, node(api.NdTuple, 0, a, b), node(api.NdIters, 0, node(api.NdIn, 0, node(api.NdTuple, 0, a, b), s)), c), "{[a, b] in s | c}", 0},
		{node(api.NdFormer, api.VSet, node(api.NdTuple, 0, a, b), node(api.NdIters, 0, node(api.NdIn, 0, node(api.NdTuple, 0, a, c), s)), c), "{[a, b] : [a, c] in s | c}", 0},
		{node(api.NdFormer, api.VSet, node(api.NdTuple, 0), overS, c), "{[] : a in s | c}", 0},
		{node(api.NdFormer, api.VSet, a, node(api.NdIters, 0, node(api.NdIn, 0, a, node(api.NdOr, 0, b, c))), c), "{a in (b or c) | c}", 1},
		{node(api.NdFormer, api.VSet, b, node(api.NdIters, 0, node(api.NdIn, 0, a, node(api.NdOr, 0, b, c))), c), "{b : a in b or c | c}", 0},
		{node(api.NdFormer, api.VSet, a, node(api.NdIters, 0, node(api.NdIn, 0, a, exists)), exists), "{a in (exists a in s | b) | exists a in s | b}", 1},

		{neg(over), "-(// s)", 1}, {un(api.UnLen, over), "#// s", 0}, {un(api.UnArb, over), "arb // s", 0}, {un(api.UnNot, over), "not // s", 0},
		{bin(api.BiAdd, a, over), "a + (// s)", 1}, {bin(api.BiAdd, over, a), "// s + a", 0}, {bin(api.BiMax, a, over), "a max (// s)", 1},
		{bin(api.BiEq, a, over), "a = // s", 0}, {bin(api.BiIn, a, over), "a in // s", 0}, {bin(api.BiPow, a, over), "a ** (// s)", 1},
		{node(api.NdAnd, 0, a, over), "a and (// s)", 1}, {node(api.NdOr, 0, a, over), "a or (// s)", 1}, {node(api.NdImpl, 0, a, over), "a impl // s", 0},
		{node(api.NdAnd, 0, a, bin(api.BiAdd, over, b)), "a and (// s + b)", 1}, {node(api.NdElse, 0, a, over), "a ? (// s)", 1},
		{node(api.NdFold, api.BiAdd, a, over), "a +/ // s", 0}, {node(api.NdFold, api.BiDiv, over), "// // s", 0}, {node(api.NdFold, api.BiPow, over), "**/ // s", 0},
		{neg(node(api.NdFold, api.BiSub, s)), "- -/ s", 0}, {un(api.UnLen, neg(a)), "# -a", 0}, {un(api.UnLen, un(api.UnLen, a)), "##a", 0}, {neg(un(api.UnArb, a)), "-arb a", 0},
		{neg(bin(api.BiSub, neg(a), b)), "-(-a - b)", 1}, {neg(un(api.UnNot, a)), "-(not a)", 1}, {un(api.UnNot, un(api.UnNot, a)), "not not a", 0},
		{node(api.NdFold, api.BiAnd, s), "and/ s", 0}, {node(api.NdFold, api.BiOr, a, s), "a or/ s", 0}, {node(api.NdFold, api.BiQuo, neg(s)), "div/ -s", 0},
		{node(api.NdFold, api.BiAdd, node(api.NdFold, api.BiAdd, a, b), node(api.NdFold, api.BiAdd, a, b)), "a +/ b +/ (a +/ b)", 1},
		{node(api.NdSel, 0, exists, exists), "(exists a in s | b)(exists a in s | b)", 1}, {node(api.NdImg, 0, node(api.NdElse, 0, a, b), c), "(a ? b){c}", 1},
		{node(api.NdQuant, api.QtForall, node(api.NdIters, 0, node(api.NdAt, 0, b, neg(a), c), node(api.NdImage, 0, b, node(api.NdSel, 0, a), c)), node(api.NdImpl, 0, b, c)), "forall b = (-a)(c), b = a(){c} | b impl c", 1},
		{node(api.NdQuant, api.QtNotexists, node(api.NdIters, 0, node(api.NdIn, 0, node(api.NdTuple, 0, node(api.NdSkip, 0), b), exists)), exists), "notexists [-, b] in exists a in s | b | exists a in s | b", 0},
		{node(api.NdRange, api.VSet, neg(a), neg(b)), "{-a..-b}", 0}, {node(api.NdSlice, 0, a, exists, node(api.NdNone, 0)), "a(exists a in s | b..)", 0},
		{node(api.NdIfx, 0, exists, exists, a, b, exists), "if exists a in s | b then exists a in s | b elseif a then b else exists a in s | b end", 0},
		{name("t#12"), "t#12", 0}, {api.Node{Kind: api.NdStr, Text: `"a" $`}, `"""a"" $"`, 0}, {node(api.NdBool, 0), "false", 0},
	} {
		got, e := show.Expr(x.n)
		if got != x.want || e != api.OK {
			t.Errorf("%s, %d, want %s", got, e, x.want)
		}
		if k, e := show.Pairs(x.n); k != x.pairs || e != api.OK {
			t.Errorf("%s: %d, %d, want %d", x.want, k, e, x.pairs)
		}
	}
}

// P9.1: statements and units, case by case.
func TestLines(t *testing.T) {
	for _, x := range []struct{ src, want string }{
		{"", ""},
		{"if a then b:=1;end;", lines("if a then", "  b := 1;", "end;")},
		{"if a then elseif b then elseif c then stop;end;", lines("if a then", "elseif b then", "elseif c then", "  stop;", "end;")},
		{"if a then else end;", lines("if a then", "else", "end;")},
		{"case of when a,b:when c:if d then end;otherwise end;", lines("case of", "when a, b:", "when c:", "  if d then", "  end;", "otherwise", "end;")},
		{"case-1 of when[1]:quit;end;", lines("case -1 of", "when [1]:", "  quit;", "end;")},
		{"while a do continue;end;until b do fail;succeed;end;", lines("while a do", "  continue;", "end;", "until b do", "  fail;", "  succeed;", "end;")},
		{"for x in s,[-,y]in t do end;for x=f(y)|x>y do loop do quit;end;end;", lines("for x in s, [-, y] in t do", "end;", "for x = f(y) | x > y do", "  loop do", "    quit;", "  end;", "end;")},
		{"x(1){2}(3..):=1;[a,[-,b(1)]]:=c;x/:=2;x and:=y;x**:=2;x max:=3;", lines("x(1){2}(3..) := 1;", "[a, [-, b(1)]] := c;", "x / := 2;", "x and := y;", "x ** := 2;", "x max := 3;")},
		{"[a,-]from s(1);x fromb y;x frome y{1};", lines("[a, -] from s(1);", "x fromb y;", "x frome y{1};")},
		{"f();f(1,2);f()(1);return;return a;assert a=b;print();print(1,-1);read(a,[b,-]);stop;", lines("f();", "f(1, 2);", "f()(1);", "return;", "return a;", "assert a = b;", "print();", "print(1, -1);", "read(a, [b, -]);", "stop;")},
	} {
		got, e := show.Body(body(t, x.src))
		if got != x.want || e != api.OK {
			t.Errorf("%s\n%s, %d, want\n%s", x.src, got, e, x.want)
		}
	}
	for _, x := range []struct{ src, want string }{
		{"program p;end;", lines("program p;", "end;")},
		{"module m;end;", lines("module m;", "end;")},
		{"module m;exports a,b;end;", lines("module m;", "  exports a, b;", "end;")},
		{"program p;uses a,b;var c;const d=-1.50;const e=\"x\";const f=true;stop;proc g(rd a,wr b,rw c);var d;var e,f;a:=b;end;proc h();end;end;",
			lines("program p;", "  uses a, b;", "  var c;", "  const d = -1.5;", "  const e = \"x\";", "  const f = true;", "  stop;", "  proc g(a, wr b, rw c);", "    var d;", "    var e, f;", "    a := b;", "  end;", "  proc h();", "  end;", "end;")},
	} {
		got, e := show.Unit(unit(t, x.src))
		if got != x.want || e != api.OK {
			t.Errorf("%s\n%s, %d, want\n%s", x.src, got, e, x.want)
		}
	}
}

// P9.1: what is assigned to.
func TestLeft(t *testing.T) {
	for _, s := range []string{"a", "a(1)(2..3){b, -c}", "[a]", "[-, [a(1), -], b{1}]", "a(exists x in s | c)"} {
		n := body(t, s+" := 1;").Kids[0].Kids[0]
		if got, e := show.Left(n); got != s || e != api.OK {
			t.Error(s, got, e)
		}
	}
}

// P9.1: the text of units is that of each, one behind the other.
func TestUnits(t *testing.T) {
	p, m := unit(t, "program p; f(); end;"), unit(t, "module m; uses k; end;")
	first, _ := show.Unit(p)
	second, _ := show.Unit(m)
	for _, x := range []struct {
		l    []api.Node
		want string
	}{
		{nil, ""}, {[]api.Node{p}, first}, {[]api.Node{p, m, p}, first + second + first},
	} {
		if got, e := show.Units(x.l); got != x.want || e != api.OK {
			t.Error(got, e, x.want)
		}
	}
}

// P9.2, P9.8: Format, case by case, and done twice.
func TestFormat(t *testing.T) {
	for _, x := range []struct {
		src, want string
		line, col int
		e         api.Errno
	}{
		{"program p; x+:=1; end;", lines("program p;", "  x + := 1;", "end;"), 0, 0, api.OK},
		{"program P; $ a comment\n x := (1); end; module m; end;", lines("program p;", "  x := 1;", "end;", "module m;", "end;"), 0, 0, api.OK},
		{"macro m(x;t); t:=x; endm; program p; m(f1) m(1) f3:=f1; end; program q; m(f2) end;",
			lines("program p;", "  f2 := f1;", "  f4 := 1;", "  f3 := f1;", "end;", "program q;", "  f1 := f2;", "end;"), 0, 0, api.OK},
		{"macro m(;t, u); proc t(u, wr v); u := \"f1\"; end; endm; program p; m end;", lines("program p;", "  proc f1(f2, wr v);", "    f2 := \"f1\";", "  end;", "end;"), 0, 0, api.OK},
		{"", "", 1, 1, api.ErrSyntax},
		{"program p;\n x := 1 end;", "", 2, 9, api.ErrSyntax},
		{"program p; x := \"a\n", "", 1, 17, api.ErrQuote},
		{"program p; !", "", 1, 12, api.ErrByte},
		{"macro m(x); x endm; program p;\n a := m; end;", "", 2, 7, api.ErrActuals},
		{"program p;\n f(1,2,3,4,5,6,7,8,9); end;", "", 2, 19, api.ErrLimit},
	} {
		got, line, col, e := show.Format(x.src)
		if got != x.want || line != x.line || col != x.col || e != x.e {
			t.Errorf("%s\n%s, %d, %d, %d, want\n%s, %d, %d, %d", x.src, got, line, col, e, x.want, x.line, x.col, x.e)
		}
		if x.e != api.OK {
			continue
		}
		if again, _, _, e := show.Format(got); again != got || e != api.OK {
			t.Errorf("%s\n%s, %d", got, again, e)
		}
	}
}

// P9.5: the examples of the chapter.
func TestChangeExamples(t *testing.T) {
	f := func(kids ...api.Node) api.Node { return node(api.NdSel, 0, append([]api.Node{name("f")}, kids...)...) }
	one, two, three, four := number("1"), number("2"), number("3"), number("4")
	if l := show.Differ(f(one), f(two)); !equalEdits(l, []api.TreeEdit{{Path: []int{1}, Node: two}}) {
		t.Error(l)
	}
	if n, at, e := show.Merge(f(one, two), f(three, two), f(one, four)); !equal(n, f(three, four)) || len(at) > 0 || e != api.OK {
		t.Error(shown(n), at, e)
	}
	if n, at, e := show.Merge(f(one), f(two), f(three)); !zero(n) || !slices.Equal(at, []int{1}) || e != api.ErrClash {
		t.Error(shown(n), at, e)
	}
}
