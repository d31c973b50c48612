package parse_test

import (
	"testing"

	"zermelo/api"
	"zermelo/parse"
)

// P8.1, P8.2: statements and their trees.
func TestBody(t *testing.T) {
	for _, c := range [][2]string{
		{"", "body"},
		{" $ nothing", "body"},
		{"x := 1;", "body(assign(x 1))"},
		{"f(1)(2) := 3;", "body(assign(sel(sel(f 1) 2) 3))"},
		{"f{1}(2 .. 3)(x, y){z} := om;", "body(assign(img(sel(slice(img(f 1) 2 3) x y) z) om))"},
		{"f(1 ..) := s;", "body(assign(slice(f 1 none) s))"},
		{"[a, -] := f(1);", "body(assign(tuple(a skip) sel(f 1)))"},
		{"[[a], [-, [b]], f(1), g{2}] := x;", "body(assign(tuple(tuple(a) tuple(skip tuple(b)) sel(f 1) img(g 2)) x))"},
		{"x + := 1; f(1) - := 2; x and := y; x or := z;", "body(change.1(x 1) change.2(sel(f 1) 2) change.24(x y) change.25(x z))"},
		{"x *:= 1; x /:= 1; x **:= 2;", "body(change.3(x 1) change.4(x 1) change.7(x 2))"},
		{"x div := 1; x mod := 1; x with := 1; x less:= 1; x lessf:= 1; x npow:= 1; x max:= 1; x min:= 1;",
			"body(change.5(x 1) change.6(x 1) change.18(x 1) change.19(x 1) change.20(x 1) change.21(x 1) change.22(x 1) change.23(x 1))"},
		{"y from s; f(1) fromb g(2); [a, -] frome x;", "body(from(y s) from.1(sel(f 1) sel(g 2)) from.2(tuple(a skip) x))"},
		{"f(); f(1, 2); f(1)(); f()(1); f{1}(2); f(1 .. 2)(3);",
			"body(call(sel(f)) call(sel(f 1 2)) call(sel(sel(f 1))) call(sel(sel(f) 1)) call(sel(img(f 1) 2)) call(sel(slice(f 1 2) 3)))"},
		{"if a then end;", "body(if(a body))"},
		{"if a then f(); elseif b then else stop; end;", "body(if(a body(call(sel(f))) b body body(stop)))"},
		{"if a then elseif b then elseif c then end;", "body(if(a body b body c body))"},
		{"case x of when 1 : end;", "body(case(x when(list(1) body)))"},
		{"case of when a, b : quit; otherwise end;", "body(case(none when(list(a b) body(quit)) body))"},
		{"case x of when 1 : stop; when 2, 3 : otherwise stop; end;", "body(case(x when(list(1) body(stop)) when(list(2 3) body) body(stop)))"},
		{"while a do stop; end; until b do end;", "body(while(a body(stop)) until(b body))"},
		{"for [x, -] in s | x do continue; end;", "body(for(iters(in(tuple(x skip) s)) x body(continue)))"},
		{"for x in s, y = f(x), z = g{y} do end;", "body(for(iters(in(x s) at(y f x) image(z g y)) none body))"},
		{"for x in exists y in t | c do end;", "body(for(iters(in(x quant(iters(in(y t)) c))) none body))"},
		{"loop do fail; succeed; quit; end;", "body(loop(body(fail succeed quit)))"},
		{"return; return 1; return [];", "body(return return(1) return(tuple))"},
		{"assert a = b;", "body(assert(bin.8(a b)))"},
		{"print(); print(1, x);", "body(print print(1 x))"},
		{"read(a); read([a, -], f(1));", "body(read(a) read(tuple(a skip) sel(f 1)))"},
		{"return if a then b else c end;", "body(return(ifx(a b c)))"},
		{"if if a then b else c end then end;", "body(if(ifx(a b c) body))"},
	} {
		n, line, col, e := parse.Body(c[0])
		if s := shown(n); e != api.OK || s != c[1] || line != 0 || col != 0 {
			t.Errorf("%s: %s, %d, %d, %d, not %s", c[0], s, line, col, e, c[1])
		}
		if e := parse.CheckBody(n); e != api.OK {
			t.Error(c[0], e)
		}
	}
}

// Errors of statements: the column of the first token that cannot stand there.
func TestBodyErrors(t *testing.T) {
	for _, c := range []struct {
		src string
		col int
	}{
		{"x", 2}, {"x;", 2}, {"x := 1", 7}, {"x := ;", 6}, {"x = 1;", 3}, {"1 := x;", 1}, {"(x) := 1;", 1}, {"om := 1;", 1}, {"- := 1;", 1},
		{"f() := 1;", 5}, {"f()(1) := 3;", 8}, {"f(1)() := 3;", 8}, {"f()", 4}, {"f() from s;", 5}, {"f() + := 1;", 5}, {"f{1};", 5}, {"f(1 ..);", 8}, {"f(1 .. 2);", 10},
		{"f(){1};", 7}, {"f(1) g(2);", 6}, {"f(1)", 5}, {"f(1, 2 .. 3)", 8}, {"f{}", 3},
		{"x + 1;", 5}, {"x + y := 1;", 5}, {"x + / := 1;", 5}, {"x / / := 1;", 5}, {"x = := 1;", 3}, {"x not := 1;", 3}, {"x impl := 1;", 3}, {"x ? := 1;", 3}, {"x in := s;", 3}, {"x # := 1;", 3},
		{"[a] + := 1;", 5}, {"[] := 1;", 2}, {"[a, ] := 1;", 5}, {"[f()] := 1;", 4}, {"[a](1) := 1;", 4}, {"[a];", 4}, {"[a, 1] := 1;", 5}, {"[a + b] := 1;", 4}, {"[(a)] := 1;", 2}, {"[a .. b] := 1;", 4}, {"[[]] := 1;", 3},
		{"x from [a];", 8}, {"x from f();", 10}, {"x from 1;", 8}, {"x from s + t;", 10}, {"x from s(1 ..", 14}, {"[a] from - ;", 10},
		{"if a then", 10}, {"if a do end;", 6}, {"if a then end", 14}, {"if then end;", 4}, {"if a then else elseif b then end;", 16}, {"if a then else else end;", 16},
		{"case x when 1 : end;", 8}, {"case x of end;", 11}, {"case of otherwise end;", 9}, {"case of when : end;", 14}, {"case of when 1 end;", 16}, {"case of when 1 : otherwise when 2 : end;", 28}, {"case of when 1, : end;", 17},
		{"while do end;", 7}, {"while a end;", 9}, {"while a do", 11}, {"until a then", 9}, {"loop end;", 6}, {"loop x do", 6}, {"loop do", 8},
		{"for do", 5}, {"for x do", 7}, {"for x in s, do", 13}, {"for x in s | do", 14}, {"for x in s | c | d do", 16}, {"for x = f do", 11}, {"for x = f(1) do", 14}, {"for f(x) in s do", 6},
		{"quit", 5}, {"quit 1;", 6}, {"continue x;", 10}, {"fail(1);", 5}, {"stop;;", 6}, {"succeed", 8},
		{"return", 7}, {"return 1", 9}, {"return := 1;", 8}, {"assert;", 7}, {"assert a b;", 10},
		{"print;", 6}, {"print(1", 8}, {"print(1,);", 9}, {"print(1 .. 2);", 9}, {"print()();", 8}, {"print{1};", 6},
		{"read();", 6}, {"read(1);", 6}, {"read(f());", 8}, {"read(-);", 6}, {"read(a, );", 9}, {"read(a)(1);", 8},
		{"end;", 1}, {"x := 1; end;", 9}, {"var x;", 1}, {"proc f(); end;", 1}, {"macro m; endm;", 1}, {"stop; endm;", 7}, {"x := 1 else", 8},
	} {
		n, line, col, e := parse.Body(c.src)
		if e != api.ErrSyntax || line != 1 || col != c.col || !zero(n) {
			t.Errorf("%s: %d, %d, %d, not %d", c.src, line, col, e, c.col)
		}
	}
}

// P8.1, P8.2: units and their trees.
func TestUnits(t *testing.T) {
	for _, c := range []struct {
		src  string
		want []string
	}{
		{"program p; end;", []string{"program:p(decls body procs)"}},
		{"module m; end;", []string{"module:m(exports decls procs)"}},
		{"module m; exports f, g; end;", []string{"module:m(exports(f g) decls procs)"}},
		{"program p; uses m, n; var x; const c = 1; var y, z; end;", []string{"program:p(decls(uses(m n) var(x) const:c(1) var(y z)) body procs)"}},
		{"module m; const a = 1.5; const b = \"s\"; const c = true; const d = false; const e = -1; const f = - 2.5; end;",
			[]string{"module:m(exports decls(const:a(1.5) const:b(\"s\") const:c(bool.1) const:d(bool) const:e(un.1(1)) const:f(un.1(2.5))) procs)"}},
		{"program p; stop; proc f(); end; proc g(x); var y; var z, u; return x; end; end;",
			[]string{"program:p(decls body(stop) procs(proc:f(params decls body) proc:g(params(param:x) decls(var(y) var(z u)) body(return(x)))))"}},
		{"module m; exports f; const c = -1.5; proc f(rd a, wr b, rw c, d); b := a; end; end;",
			[]string{"module:m(exports(f) decls(const:c(un.1(1.5))) procs(proc:f(params(param:a param.1:b param.2:c param:d) decls body(assign(b a)))))"}},
		{"program p; end; module m; end; program p; end;", []string{"program:p(decls body procs)", "module:m(exports decls procs)", "program:p(decls body procs)"}},
	} {
		l, line, col, e := parse.Units(c.src)
		if e != api.OK || line != 0 || col != 0 || len(l) != len(c.want) {
			t.Fatal(c.src, len(l), line, col, e)
		}
		for i, n := range l {
			if shown(n) != c.want[i] {
				t.Errorf("%s: %s, not %s", c.src, shown(n), c.want[i])
			}
			if e := parse.CheckUnit(n); e != api.OK {
				t.Error(c.src, e)
			}
		}
	}
}

// Errors of units: the column of the first token that cannot stand there.
func TestUnitErrors(t *testing.T) {
	for _, c := range []struct {
		src string
		col int
	}{
		{"", 1}, {"x", 1}, {"end;", 1}, {"program", 8}, {"program p", 10}, {"program p;", 11}, {"program 1;", 9}, {"program end;", 9}, {"program p end;", 11},
		{"program p; end", 15}, {"program p; end; x", 17}, {"program p; end; end;", 17}, {"program p; print(1) end;", 21}, {"program p; exports f; end;", 12},
		{"program p; stop; var x; end;", 18}, {"program p; proc f(); end; stop; end;", 27}, {"program p; proc f(); end; var x; end;", 27},
		{"module m; stop; end;", 11}, {"module m; exports; end;", 18}, {"module m; exports f g;", 21}, {"module m; var x; exports f;", 18}, {"module m; exports f; exports g;", 22},
		{"program p; var; end;", 15}, {"program p; var a, b, ; end;", 22}, {"program p; var a b;", 18}, {"program p; uses 1;", 17}, {"program p; var a = 1;", 18},
		{"program p; const c; end;", 19}, {"program p; const c = ; end;", 22}, {"program p; const c = x;", 22}, {"program p; const c = om;", 22}, {"program p; const c = - - 1;", 24},
		{"program p; const c = - \"a\";", 24}, {"program p; const c = - true;", 24}, {"program p; const c = (1);", 22}, {"program p; const c = 1 + 1;", 24}, {"program p; const c := 1;", 20}, {"program p; const c, d = 1;", 19}, {"program p; const c = -;", 23},
		{"program p; proc f; end; end;", 18}, {"program p; proc (); end; end;", 17}, {"program p; proc f() end; end;", 21}, {"program p; proc f(a,); end; end;", 21}, {"program p; proc f(rd); end; end;", 21},
		{"program p; proc f(rd wr a); end; end;", 22}, {"program p; proc f(a b); end; end;", 21}, {"program p; proc f(1); end; end;", 19}, {"program p; proc f(); const c = 1; end; end;", 22}, {"program p; proc f(); uses m; end; end;", 22},
		{"program p; proc f(); stop; var x; end; end;", 28}, {"program p; proc f(); proc g(); end; end; end;", 22}, {"program p; proc f(); end end;", 26}, {"program p; proc f(); end;", 26},
		{"program p; if a then proc f(); end; end;", 22}, {"program p; x := \"a\" \"b\"; end;", 21},
	} {
		l, line, col, e := parse.Units(c.src)
		if e != api.ErrSyntax || line != 1 || col != c.col || l != nil {
			t.Errorf("%s: %d, %d, %d, not %d", c.src, line, col, e, c.col)
		}
	}
}

// P8.1: tokens of other Kinds than their Texts would have are not what they look like; names are names whatever their Text is.
func TestKinds(t *testing.T) {
	good := tokens(t, "program p; x := [1, 2.5, \"end\", y and z]; end;")
	if _, at, e := parse.Tokens(good); e != api.OK || at != 0 {
		t.Fatal(at, e)
	}
	for i := range good {
		for kind := 0; kind <= 7; kind++ {
			l := append([]api.Token(nil), good...)
			l[i].Kind = kind
			_, at, e := parse.Tokens(l)
			value := good[i].Kind >= api.TkInt && good[i].Kind <= api.TkStr || good[i].Text == "y" || good[i].Text == "z"
			fits := kind == good[i].Kind || value && (kind == api.TkName || kind >= api.TkInt && kind <= api.TkStr)
			if fits != (e == api.OK) || !fits && (at != i && at != i+1 || e != api.ErrSyntax) { // a value, or a statement, could begin with it
				t.Error(i, good[i].Text, kind, at, e)
			}
		}
	}
	for _, name := range []string{"t#1", "end", "+", "", "A B"} {
		l := append([]api.Token(nil), good...)
		l[1].Text, l[3].Text, l[12].Text = name, name, name
		all, _, e := parse.Tokens(l)
		if e != api.OK || all[0].Text != name || all[0].Kids[1].Kids[0].Kids[0].Text != name {
			t.Error(name, e)
		}
	}
}
