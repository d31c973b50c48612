package parse_test

import (
	"testing"

	"zermelo/api"
	"zermelo/parse"
)

// P8.1, P8.2: expressions and their trees.
func TestExpr(t *testing.T) {
	for _, c := range [][2]string{
		// primaries
		{"007", "7"},
		{"1.50", "1.5"},
		{`"a""b"`, `"a\"b"`},
		{"Abc", "abc"},
		{"true", "bool.1"},
		{"false", "bool"},
		{"om", "om"},
		{"newat", "newat"},
		{"ok", "ok"},
		{"(((x)))", "x"},
		{"[]", "tuple"},
		{"{}", "set"},
		{"[1, [2], {3}]", "tuple(1 tuple(2) set(3))"},
		{"{1, 2, 3, 4, 5, 6, 7, 8}", "set(1 2 3 4 5 6 7 8)"},
		{"[1 .. 9]", "range.7(1 9)"},
		{"{1, 3 .. 9}", "range.8(1 3 9)"},
		{"{a = b .. c impl d}", "range.8(bin.8(a b) impl(c d))"},
		{"if a then b else c end", "ifx(a b c)"},
		{"if a then b elseif c then d elseif e then f else g end", "ifx(a b c d e f g)"},
		// formers
		{"{x : x in s}", "former.8(x iters(in(x s)) none)"},
		{"[x : x in s | c]", "former.7(x iters(in(x s)) c)"},
		{"[x + y : x in s, [y, -] in t or u | c and d]", "former.7(bin.1(x y) iters(in(x s) in(tuple(y skip) or(t u))) and(c d))"},
		{"{x : - = f(x)}", "former.8(x iters(at(skip f x)) none)"},
		{"{x : y = f{[x, [z]]}}", "former.8(x iters(image(y f tuple(x tuple(z)))) none)"},
		{"{x : y = f(1)(x)}", "former.8(x iters(at(y sel(f 1) x)) none)"},
		{"{x : y = f()(x)}", "former.8(x iters(at(y sel(f) x)) none)"},
		{"{x : y = f(1, 2){1}(3 ..){x}}", "former.8(x iters(image(y slice(img(sel(f 1 2) 1) 3 none) x)) none)"},
		{"{x : y = (f(x))}", "former.8(x iters(at(y f x)) none)"},
		{"{x : y = ((f{(x)})), z = (a + b)(([x]))}", "former.8(x iters(image(y f x) at(z bin.1(a b) tuple(x))) none)"},
		{"{x : y = {1}(x), z = 2(x), u = \"a\"{x}, v = if a then b else c end(x)}", "former.8(x iters(at(y set(1) x) at(z 2 x) image(u \"a\" x) at(v ifx(a b c) x)) none)"},
		{"{x : y = (exists x in s | c)(x)}", "former.8(x iters(at(y quant(iters(in(x s)) c) x)) none)"},
		{"{x in s | x > 1}", "former.8(x iters(in(x s)) bin.12(x 1))"},
		{"[[x, [y]] in s + t | c]", "former.7(tuple(x tuple(y)) iters(in(tuple(x tuple(y)) bin.1(s t))) c)"},
		{"{(x in s) | c}", "former.8(x iters(in(x s)) c)"},
		{"{((([(x), ([y])]) in s)) | c}", "former.8(tuple(x tuple(y)) iters(in(tuple(x tuple(y)) s)) c)"},
		{"{x in exists y in t | c | d}", "former.8(x iters(in(x quant(iters(in(y t)) c))) d)"},
		{"{x in s}", "set(bin.14(x s))"},
		// quantifiers
		{"exists x in s | c", "quant(iters(in(x s)) c)"},
		{"forall x in s, y in t | c impl d", "quant.1(iters(in(x s) in(y t)) impl(c d))"},
		{"notexists [x, -] in s | x", "quant.2(iters(in(tuple(x skip) s)) x)"},
		{"a + exists x in s | c + d", "bin.1(a quant(iters(in(x s)) bin.1(c d)))"},
		{"(exists x in s | c) + d", "bin.1(quant(iters(in(x s)) c) d)"},
		{"(exists x in s | c)(1)", "sel(quant(iters(in(x s)) c) 1)"},
		{"exists x in s | c(1)", "quant(iters(in(x s)) sel(c 1))"},
		{"exists x in s | a = b = c", "bin.8(quant(iters(in(x s)) bin.8(a b)) c)"},
		{"z + exists x in s | a = b = c", "bin.8(bin.1(z quant(iters(in(x s)) bin.8(a b))) c)"},
		{"not exists x in s | forall y in t | c", "un.2(quant(iters(in(x s)) quant.1(iters(in(y t)) c)))"},
		{"[exists x in s, y in t | c, d]", "tuple(quant(iters(in(x s) in(y t)) c) d)"},
		{"exists x in exists y in t | c, z in u | d", "quant(iters(in(x quant(iters(in(y t)) c)) in(z u)) d)"},
		{"a ? exists x in s | c ? d", "else(a quant(iters(in(x s)) else(c d)))"},
		// what follows a primary
		{"f()", "sel(f)"},
		{"f(1, x)", "sel(f 1 x)"},
		{"f{1, x}", "img(f 1 x)"},
		{"f(1..2)", "slice(f 1 2)"},
		{"f(1..)", "slice(f 1 none)"},
		{"f(1){2}(3..)()", "sel(slice(img(sel(f 1) 2) 3 none))"},
		{"(a + b)(1)", "sel(bin.1(a b) 1)"},
		{"[1](1)", "sel(tuple(1) 1)"},
		{"om(1)", "sel(om 1)"},
		{"3{4}", "img(3 4)"},
		{"if a then b else c end(1)", "sel(ifx(a b c) 1)"},
		{"-f(1)", "un.1(sel(f 1))"},
		// levels
		{"-2**2", "un.1(bin.7(2 2))"},
		{"2 ** -3 ** 2", "bin.7(2 un.1(bin.7(3 2)))"},
		{"a - b - c", "bin.2(bin.2(a b) c)"},
		{"a ** b ** c", "bin.7(a bin.7(b c))"},
		{"a impl b impl c", "impl(a impl(b c))"},
		{"a or b or c and d", "or(or(a b) and(c d))"},
		{"a and b and not not c", "and(and(a b) un.2(un.2(c)))"},
		{"not a = b and c", "and(un.2(bin.8(a b)) c)"},
		{"a or b impl c or d", "impl(or(a b) or(c d))"},
		{"a + b * c - d div e", "bin.2(bin.1(a bin.3(b c)) bin.5(d e))"},
		{"a * b / c mod d", "bin.6(bin.4(bin.3(a b) c) d)"},
		{"- # arb a * b", "bin.3(un.1(un.3(un.4(a))) b)"},
		{"a ? b ? c ** d", "bin.7(else(else(a b) c) d)"},
		{"a ** b ? c", "bin.7(a else(b c))"},
		{"- a ? b", "un.1(else(a b))"},
		{"a with b less c lessf d npow e max f min g", "bin.23(bin.22(bin.21(bin.20(bin.19(bin.18(a b) c) d) e) f) g)"},
		{"a notin b + c", "bin.15(a bin.1(b c))"},
		// folds
		{"+/ s", "fold.1(s)"},
		{"0 +/ s", "fold.1(0 s)"},
		{"0 +/ s * 2", "fold.1(0 bin.3(s 2))"},
		{"+/ s * 2", "bin.3(fold.1(s) 2)"},
		{"+/ s ** 2", "fold.1(bin.7(s 2))"},
		{"a * / b", "fold.3(a b)"},
		{"a * b * / c + d", "bin.1(fold.3(bin.3(a b) c) d)"},
		{"a + b * / c", "fold.3(bin.1(a b) c)"},
		{"a and b and / c", "and(a fold.24(b c))"},
		{"a or / b or c", "or(fold.25(a b) c)"},
		{"a = b and / c", "bin.8(a fold.24(b c))"},
		{"and / or / s", "fold.24(fold.25(s))"},
		{"/ / s", "fold.4(s)"},
		{"a / / b", "fold.4(a b)"},
		{"a / b / / c", "fold.4(bin.4(a b) c)"},
		{"a = / / s", "bin.8(a fold.4(s))"},
		{"- / / / s", "fold.2(fold.4(s))"},
		{"a - / / / s", "fold.2(a fold.4(s))"},
		{"a - (/ / s)", "bin.2(a fold.4(s))"},
		{"# / / s", "un.3(fold.4(s))"},
		{"a ** - / s", "bin.7(a fold.2(s))"},
		{"a ** / s", "fold.7(a s)"},
		{"max / s max min / t", "bin.22(fold.22(s) fold.23(t))"},
		{"a div / b mod / c", "fold.6(fold.5(a b) c)"},
		{"\"+\" / s", "bin.4(\"+\" s)"},
		{"a with / b less / c lessf / d npow / e", "fold.21(fold.20(fold.19(fold.18(a b) c) d) e)"},
	} {
		n, line, col, e := parse.Expr(c[0])
		if s := shown(n); e != api.OK || s != c[1] || line != 0 || col != 0 {
			t.Errorf("%s: %s, %d, %d, %d, not %s", c[0], s, line, col, e, c[1])
		}
		if e := parse.CheckExpr(n); e != api.OK {
			t.Error(c[0], e)
		}
	}
}

// Each operator, as it is written, with its number, its level, and how it groups (P8.4).
func TestOperators(t *testing.T) {
	for _, r := range table {
		for i, sign := range split(r.signs) {
			src, want := "x "+sign+" s", api.Node{Kind: r.kind, N: r.numbers[i], Kids: []api.Node{{Kind: api.NdName, Text: "x"}, {Kind: api.NdName, Text: "s"}}}
			if r.first == 0 {
				src, want.Kids = sign+" s", want.Kids[1:]
			}
			n := expr(t, src)
			if !parse.Same(n, want) {
				t.Error(src, shown(n), shown(want))
			}
			if l, s, way := parse.Operator(n); l != r.level || s != sign || way != r.way || parse.Level(n) != r.level {
				t.Error(src, l, s, way, parse.Level(n))
			}
			same := "x " + sign + " s " + sign + " x"
			got, line, col, e := parse.Expr(same)
			switch {
			case r.way == 1 && (e != api.OK || len(got.Kids) != 2 || len(got.Kids[0].Kids) != 2),
				r.way == 2 && (e != api.OK || len(got.Kids) != 2 || len(got.Kids[1].Kids) != 2),
				r.way == 3 && (e != api.ErrSyntax || line != 1 || col != len("x  s ")+len(sign)+1):
				t.Error(same, shown(got), line, col, e)
			}
		}
	}
	for sign, number := range foldTable {
		for src, level := range map[string]int{sign + " / s": 8, "x " + sign + " / s": 6} {
			n := expr(t, src)
			l, s, way := parse.Operator(n)
			if n.Kind != api.NdFold || n.N != number || l != level || s != sign || way != (8-level)/2 || parse.Level(n) != level {
				t.Error(src, shown(n), l, s, way)
			}
		}
	}
}

// P8.4: levels of all Kinds, and what is not of the tables.
func TestLevel(t *testing.T) {
	levels := map[int]int{api.NdQuant: 0, api.NdImpl: 1, api.NdOr: 2, api.NdAnd: 3, api.NdElse: 10}
	for _, kind := range []int{api.NdInt, api.NdDec, api.NdStr, api.NdName, api.NdBool, api.NdOm, api.NdNewat, api.NdOk, api.NdTuple, api.NdSet,
		api.NdRange, api.NdFormer, api.NdIfx, api.NdSel, api.NdImg, api.NdSlice} {
		levels[kind] = 11
	}
	for kind := -1; kind < 120; kind++ {
		want, is := levels[kind]
		if !is {
			want = -1
		}
		if got := parse.Level(api.Node{Kind: kind}); got != want && kind != api.NdUn && kind != api.NdBin && kind != api.NdFold {
			t.Error(kind, got, want)
		}
		l, sign, way := parse.Operator(api.Node{Kind: kind})
		if want > 0 && want < 11 {
			if l != want || sign == "" || way == 0 {
				t.Error(kind, l, sign, way)
			}
		} else if l != -1 || sign != "" || way != 0 {
			t.Error(kind, l, sign, way)
		}
	}
	x := api.Node{Kind: api.NdName, Text: "x"}
	for number := -2; number < 40; number++ {
		un, two := -1, -1
		for _, r := range table {
			for _, k := range r.numbers {
				if k == number && r.kind == api.NdUn {
					un = r.level
				}
				if k == number && r.kind == api.NdBin {
					two = r.level
				}
			}
		}
		folds := foldSign(number) != "@"
		for _, c := range []struct {
			n    api.Node
			want int
		}{
			{api.Node{Kind: api.NdUn, N: number, Kids: []api.Node{x}}, un},
			{api.Node{Kind: api.NdBin, N: number, Kids: []api.Node{x, x}}, two},
			{api.Node{Kind: api.NdFold, N: number, Kids: []api.Node{x}}, map[bool]int{true: 8, false: -1}[folds]},
			{api.Node{Kind: api.NdFold, N: number, Kids: []api.Node{x, x}}, map[bool]int{true: 6, false: -1}[folds]},
		} {
			l, sign, way := parse.Operator(c.n)
			if parse.Level(c.n) != c.want || l != c.want || (sign == "") != (c.want < 0) || c.want < 0 && way != 0 {
				t.Error(shown(c.n), parse.Level(c.n), l, sign, way, c.want)
			}
		}
	}
}

// Errors of expressions: the line and column of the first token that cannot stand there.
func TestExprErrors(t *testing.T) {
	for _, c := range []struct {
		src string
		col int
		e   api.Errno
	}{
		{"", 1, api.ErrSyntax},
		{"  $ nothing", 12, api.ErrSyntax},
		{"a = b = c", 7, api.ErrSyntax},
		{"[1,", 4, api.ErrSyntax},
		{"a b", 3, api.ErrSyntax},
		{"a +", 4, api.ErrSyntax},
		{"a + / / s", 9, api.ErrSyntax},
		{"- / / s", 7, api.ErrSyntax},
		{"* x", 3, api.ErrSyntax},
		{"a = * x", 7, api.ErrSyntax},
		{"and x", 5, api.ErrSyntax},
		{"/", 2, api.ErrSyntax},
		{"a = not b", 5, api.ErrSyntax},
		{"a + not b", 5, api.ErrSyntax},
		{"- not b", 3, api.ErrSyntax},
		{"a ? - b", 5, api.ErrSyntax},
		{"a ? + / b", 5, api.ErrSyntax},
		{"a ** not b", 6, api.ErrSyntax},
		{"z = exists x in s | a = b = c", 27, api.ErrSyntax},
		{"exists", 7, api.ErrSyntax},
		{"exists x", 9, api.ErrSyntax},
		{"exists x in s", 14, api.ErrSyntax},
		{"exists 1 in s | c", 8, api.ErrSyntax},
		{"exists x , y", 10, api.ErrSyntax},
		{"exists x in s | c | d", 19, api.ErrSyntax},
		{"exists [] in s", 9, api.ErrSyntax},
		{"{a + b | c}", 8, api.ErrSyntax},
		{"{1 in s | c}", 9, api.ErrSyntax},
		{"{[] in s | c}", 10, api.ErrSyntax},
		{"{[x, -] in s | c}", 7, api.ErrSyntax},
		{"{[x, 1] in s | c}", 14, api.ErrSyntax},
		{"{x notin s | c}", 12, api.ErrSyntax},
		{"{x in s, y | c}", 12, api.ErrSyntax},
		{"{x in s in t | c}", 9, api.ErrSyntax},
		{"{exists x in s | x in t | c}", 25, api.ErrSyntax},
		{"{x in s | c | d}", 13, api.ErrSyntax},
		{"{x, y : x in s}", 7, api.ErrSyntax},
		{"{x : y}", 7, api.ErrSyntax},
		{"{x : x in s, }", 14, api.ErrSyntax},
		{"{x : y = f}", 11, api.ErrSyntax},
		{"{x : y = f()}", 13, api.ErrSyntax},
		{"{x : y = f(x, x)}", 17, api.ErrSyntax},
		{"{x : y = f(1)}", 14, api.ErrSyntax},
		{"{x : y = f{[]}}", 15, api.ErrSyntax},
		{"{x : y = f(x ..)}", 17, api.ErrSyntax},
		{"{x : y = f(x .. x)}", 19, api.ErrSyntax},
		{"{x : y = f(x) + 1}", 15, api.ErrSyntax},
		{"{x : y = exists x in s | f(x)}", 10, api.ErrSyntax},
		{"{x : y = - f(x)}", 10, api.ErrSyntax},
		{"{x : y = + / f(x)}", 10, api.ErrSyntax},
		{"{x : y = (f)}", 13, api.ErrSyntax},
		{"{x : f(x) = y}", 7, api.ErrSyntax},
		{"[1, 2, 3 .. 4]", 10, api.ErrSyntax},
		{"[1 .. ]", 7, api.ErrSyntax},
		{"[1 .. 2, 3]", 8, api.ErrSyntax},
		{"[.. 2]", 2, api.ErrSyntax},
		{"[1, ]", 5, api.ErrSyntax},
		{"[1}", 3, api.ErrSyntax},
		{"{1]", 3, api.ErrSyntax},
		{"()", 2, api.ErrSyntax},
		{"(1, 2)", 3, api.ErrSyntax},
		{"f(", 3, api.ErrSyntax},
		{"f(1", 4, api.ErrSyntax},
		{"f(1, 2 .. 3)", 8, api.ErrSyntax},
		{"f(.. 3)", 3, api.ErrSyntax},
		{"f{}", 3, api.ErrSyntax},
		{"f{1 .. 2}", 5, api.ErrSyntax},
		{"if a then b end", 13, api.ErrSyntax},
		{"if a then b elseif c else d end", 22, api.ErrSyntax},
		{"if a then b else c", 19, api.ErrSyntax},
		{"not", 4, api.ErrSyntax},
		{"a := b", 3, api.ErrSyntax},
		{"a;", 2, api.ErrSyntax},
		{"macro m; endm;", 1, api.ErrSyntax},
		{"a + endm", 5, api.ErrSyntax},
		{"include \"x\";", 1, api.ErrSyntax},
		{"@", 1, api.ErrSyntax},
		{"a . b", 3, api.ErrSyntax},
		{"a -> b", 3, api.ErrSyntax},
		{"a \"+\" b", 3, api.ErrSyntax},
	} {
		n, line, col, e := parse.Expr(c.src)
		if e != c.e || line != 1 || col != c.col || !zero(n) {
			t.Errorf("%s: %d, %d, %d, not %d, %d", c.src, line, col, e, c.col, c.e)
		}
	}
}
