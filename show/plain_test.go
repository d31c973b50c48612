package show_test

import (
	"math/rand"
	"slices"
	"strconv"
	"strings"
	"testing"

	"zermelo/api"
	"zermelo/macro"
	"zermelo/parse"
	"zermelo/show"
)

// holdsName are the Kinds whose Text is a name.
var holdsName = []int{api.NdName, api.NdParam, api.NdConst, api.NdProc, api.NdProgram, api.NdModule}

// plainly tells a second time what Plain makes of a tree.
func plainly(n api.Node) api.Node {
	n = lineless(n)
	var all []*api.Node
	each(&n, func(x *api.Node) {
		if slices.Contains(holdsName, x.Kind) {
			all = append(all, x)
		}
	})
	var old, taken []string
	for _, x := range all {
		taken = append(taken, x.Text)
		if strings.Contains(x.Text, "#") && !slices.Contains(old, x.Text) {
			old = append(old, x.Text)
		}
	}
	k := 0
	for _, text := range old {
		for k++; slices.Contains(taken, "f"+strconv.Itoa(k)); k++ {
		}
		for _, x := range all {
			if x.Text == text {
				x.Text = "f" + strconv.Itoa(k)
			}
		}
	}
	return n
}

// freshly gives some names of a tree other ones, many of them fresh, and gives its nodes lines.
func freshly(m maker, n *api.Node) {
	pool := []string{"t#1", "t#2", "u#1", "f#10", "f1#1", "f1", "f2", "f3", "f5", "f01", "f0", "f", "x"}
	each(n, func(x *api.Node) {
		x.Line = m.Intn(50)
		if slices.Contains(holdsName, x.Kind) && m.Intn(3) > 0 {
			x.Text = m.text(pool)
		}
		if x.Kind == api.NdStr {
			x.Text = m.text([]string{"t#1", "f1", "f4"})
		}
	})
}

// P9.3, P9.12: Plain of trees by chance, told a second time; done twice; behind it there is no fresh name, and different names stay different.
func TestPlain(t *testing.T) {
	m := maker{rand.New(rand.NewSource(7))}
	for _, k := range kindsOfTrees() {
		if k.name == "left" {
			continue
		}
		for range 800 {
			n := k.make(m)
			freshly(m, &n)
			want := plainly(n)
			got, e := show.Plain(n)
			if e != api.OK || !equal(got, want) {
				t.Fatalf("%s\n%s, %d, want\n%s", shown(n), shown(got), e, shown(want))
			}
			again, e := show.Plain(got)
			if e != api.OK || !equal(again, got) {
				t.Fatal(shown(got), shown(again), e)
			}
			names := map[string]string{}
			var old []string
			each(&n, func(x *api.Node) { old = append(old, x.Text) })
			each(&got, func(x *api.Node) {
				before := old[0]
				old = old[1:]
				if !slices.Contains(holdsName, x.Kind) {
					return
				}
				if _, _, fresh := macro.Fresh(x.Text); fresh || names[x.Text] != "" && names[x.Text] != before {
					t.Fatal(x.Text, before, names[x.Text])
				}
				names[x.Text] = before
			})
			s, e := k.show(got)
			back, f := k.read(s)
			if e != api.OK || f != api.OK || !equal(lineless(back), got) {
				t.Fatal(s, e, f)
			}
		}
	}
}

// P9.12: a tree without fresh names keeps its text.
func TestPlainKeepsText(t *testing.T) {
	m := maker{rand.New(rand.NewSource(8))}
	for _, k := range kindsOfTrees()[:3] {
		for range 300 {
			n := k.make(m)
			x, e := show.Plain(n)
			before, _ := k.show(n)
			if behind, f := k.show(x); e != api.OK || f != api.OK || before != behind {
				t.Fatal(before, behind, e, f)
			}
		}
	}
}

// P9.3: Plain, case by case.
func TestPlainCases(t *testing.T) {
	fresh := func(src string) api.Node { // a _ with a digit stands for a # and the digit
		n := body(t, src)
		each(&n, func(x *api.Node) { x.Text = strings.ReplaceAll(x.Text, "_", "#") })
		return n
	}
	for _, x := range []struct{ src, want string }{
		{"f(t_1, t_2, u_1, t_1);", "f(f1, f2, f3, f1);\n"},
		{"f(t_1, f1, f_1);", "f(f2, f1, f3);\n"},
		{"f1 := f4; f(t_1, t_2, t_3);", "f1 := f4;\nf(f2, f3, f5);\n"},
		{"x := f01; f(t_1, \"f1\", \"t_1\");", "x := f01;\nf(f1, \"f1\", \"t#1\");\n"},
		{"y := {t_1 in t_2 | t_1 > 1};", "y := {f1 in f2 | f1 > 1};\n"},
		{"y := {t_1 : u_1 in t_2 | t_1 > 1};", "y := {f1 : f2 in f3 | f1 > 1};\n"},
	} {
		n, e := show.Plain(fresh(x.src))
		s, f := show.Body(n)
		if s != x.want || e != api.OK || f != api.OK {
			t.Errorf("%s: %s, %d, %d, want %s", x.src, s, e, f, x.want)
		}
	}
	many := unit(t, "module m; exports a; const b = 1; proc c(wr d); end; end;")
	many.Text, many.Kids[0].Kids[0].Text, many.Kids[1].Kids[0].Text, many.Kids[2].Kids[0].Text, many.Kids[2].Kids[0].Kids[0].Kids[0].Text = "m#1", "a#1", "b#1", "c#1", "d#1"
	n, e := show.Plain(many)
	s, _ := show.Unit(n)
	if want := lines("module f1;", "  exports f2;", "  const f3 = 1;", "  proc f4(wr f5);", "  end;", "end;"); s != want || e != api.OK {
		t.Error(s, e)
	}
}

// P9.3: the error is that of the check for the Kind, and there is no tree with one.
func TestPlainErrors(t *testing.T) {
	m := maker{rand.New(rand.NewSource(9))}
	trees := wrongTrees()
	for range 200 {
		trees = append(trees, m.expr(2), m.left(2), m.body(2), m.unit(1), m.statement(1))
	}
	for _, n := range trees {
		want := parse.CheckExpr(n)
		switch n.Kind {
		case api.NdProgram, api.NdModule:
			want = parse.CheckUnit(n)
		case api.NdBody:
			want = parse.CheckBody(n)
		}
		if x, e := show.Plain(n); e != want || e != api.OK && !zero(x) {
			t.Fatal(shown(n), shown(x), e, want)
		}
	}
}
