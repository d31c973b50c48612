package macro_test

import (
	"regexp"
	"slices"
	"strconv"
	"strings"

	"zermelo/api"
	"zermelo/lex"
)

// The key words, and the shapes of names and of fresh names.
var (
	keyWords   = lex.Keys()
	nameShape  = regexp.MustCompile(`^[a-z][a-z0-9_]{0,23}$`)
	freshShape = regexp.MustCompile(`^([^#]*)#([1-9][0-9]{0,3})$`)
)

// nameModel reports whether a string is a name.
func nameModel(s string) bool { return nameShape.MatchString(s) && !slices.Contains(keyWords, s) }

// freshModel is Fresh told a second time.
func freshModel(s string) (string, int, bool) {
	parts := freshShape.FindStringSubmatch(s)
	if parts == nil || !nameModel(parts[1]) || len(parts[2]) == 4 && parts[2] > "6000" {
		return "", 0, false
	}
	n, _ := strconv.Atoi(parts[2])
	return parts[1], n, true
}

// checkModel is Check told a second time: it gathers all that is wrong.
func checkModel(defs []api.Macro) (int, api.Errno) {
	if len(defs) > 100 {
		return 0, api.ErrLimit
	}
	bodies := 0
	wrong := map[int]api.Errno{}
	for i := len(defs) - 1; i >= 0; i-- {
		m := defs[i]
		bodies += len(m.Body)
		if slices.ContainsFunc(defs[:i], func(other api.Macro) bool { return other.Name == m.Name }) {
			wrong[i] = api.ErrTwice
		}
		inner := append(slices.Clone(m.Params), m.Fresh...)
		slices.Sort(inner)
		right := nameModel(m.Name) && len(slices.Compact(slices.Clone(inner))) == len(inner) && len(m.Params) <= 8 && len(m.Fresh) <= 8
		for _, s := range inner {
			right = right && nameModel(s)
		}
		for _, t := range m.Body {
			_, _, fresh := freshModel(t.Text)
			right = right && !(t.Kind == api.TkName && fresh) && !(t.Kind == api.TkKey && (t.Text == "macro" || t.Text == "endm" || t.Text == "include"))
		}
		if !right {
			wrong[i] = api.ErrMacro
		}
	}
	for i := range defs {
		if wrong[i] != api.OK {
			return i, wrong[i]
		}
	}
	if bodies > 6000 {
		return 0, api.ErrLimit
	}
	return 0, api.OK
}

// coded writes each token as one byte: M and E for the key words macro and endm, n for names, the signs of definitions, o for others.
func coded(l []api.Token) string {
	code := make([]byte, len(l))
	for i, t := range l {
		code[i] = 'o'
		switch {
		case t.Kind == api.TkKey && t.Text == "macro":
			code[i] = 'M'
		case t.Kind == api.TkKey && t.Text == "endm":
			code[i] = 'E'
		case t.Kind == api.TkName:
			code[i] = 'n'
		case t.Kind == api.TkSign && len(t.Text) == 1 && strings.Contains("(;,)", t.Text):
			code[i] = t.Text[0]
		}
	}
	return string(code)
}

// The shapes of definitions, and of lists that have them.
var (
	definitionShape = regexp.MustCompile(`M(n)(?:\((n(?:,n)*)\)|\((n(?:,n)*)?;(n(?:,n)*)\))?;([^ME]*)E;`)
	splitShape      = regexp.MustCompile(`^(?:[^ME]|` + definitionShape.String() + `)*$`)
)

// goesOn reports whether a list that begins so can be split.
func goesOn(code string) bool {
	for _, rest := range []string{"", ";", "E;", ";E;", "n;E;", ");E;", "n);E;"} {
		if splitShape.MatchString(code + rest) {
			return true
		}
	}
	return false
}

// splitModel is Split told a second time.
func splitModel(l []api.Token) ([]api.Macro, []api.Token, int, api.Errno) {
	if len(l) > 6000 {
		return nil, nil, 0, api.ErrLimit
	}
	code := coded(l)
	for i := range code {
		if !goesOn(code[:i+1]) {
			return nil, nil, i, api.ErrMacro
		}
	}
	if !splitShape.MatchString(code) {
		return nil, nil, len(l), api.ErrMacro
	}
	var defs []api.Macro
	var rest []api.Token
	var begins []int
	last := 0
	for _, at := range definitionShape.FindAllStringSubmatchIndex(code, -1) {
		part := func(i int) []api.Token {
			if at[2*i] < 0 {
				return nil
			}
			return l[at[2*i]:at[2*i+1]]
		}
		texts := func(i int) []string {
			var s []string
			for _, t := range part(i) {
				if t.Kind == api.TkName {
					s = append(s, t.Text)
				}
			}
			return s
		}
		defs = append(defs, api.Macro{Name: texts(1)[0], Params: append(texts(2), texts(3)...), Fresh: texts(4), Body: part(5)})
		begins = append(begins, at[0])
		rest = append(rest, l[last:at[0]]...)
		last = at[1]
	}
	if which, e := checkModel(defs); e == api.ErrLimit {
		return nil, nil, 0, e
	} else if e != api.OK {
		return nil, nil, begins[which], e
	}
	return defs, append(rest, l[last:]...), 0, api.OK
}

// argsModel is Args told a second time: it first finds how many brackets are open behind each token.
func argsModel(l []api.Token, at int) ([][]api.Token, int, api.Errno) {
	if len(l) > 6000 {
		return nil, 0, api.ErrLimit
	}
	if at < 0 || at >= len(l) || l[at].Kind != api.TkSign || l[at].Text != "(" {
		return nil, 0, api.ErrArg
	}
	open, level := 0, make([]int, len(l))
	for i := at; i < len(l); i++ {
		if l[i].Kind == api.TkSign && strings.Contains("([{", l[i].Text) {
			open++
		}
		if l[i].Kind == api.TkSign && strings.Contains(")]}", l[i].Text) {
			open--
		}
		level[i] = open
	}
	end := slices.Index(level[at:], 0)
	if end < 0 {
		return nil, 0, api.ErrActuals
	}
	end += at
	var args [][]api.Token
	from := at + 1
	for i := from; i <= end; i++ {
		if i == end || level[i] == 1 && l[i].Kind == api.TkSign && l[i].Text == "," {
			args = append(args, slices.Clone(l[from:i]))
			from = i + 1
		}
	}
	return args, end + 1, api.OK
}

// word is a token of a list, with its origin, its depth, and the index of the token of the given list from which a use of it would come.
type word struct {
	api.Token
	origin     api.Origin
	deep, from int
}

// tokensOf returns the tokens of a list.
func tokensOf(l []word) []api.Token {
	var all []api.Token
	for _, w := range l {
		all = append(all, w.Token)
	}
	return all
}

// expandModel is Expand told a second time: the list is put together anew for each use.
func expandModel(defs []api.Macro, l []api.Token) (api.Expanded, int, api.Errno) {
	if len(l) > 6000 {
		return api.Expanded{}, 0, api.ErrLimit
	}
	if _, e := checkModel(defs); e != api.OK {
		return api.Expanded{}, 0, e
	}
	var list []word
	for i, t := range l {
		list = append(list, word{t, api.Origin{Macro: -1, At: i}, 0, i})
	}
	var x api.Expanded
	for {
		which := -1
		at := slices.IndexFunc(list, func(w word) bool {
			which = slices.IndexFunc(defs, func(m api.Macro) bool { return w.Kind == api.TkName && w.Text == m.Name })
			return which >= 0
		})
		if at < 0 {
			for _, w := range list {
				x.Tokens = append(x.Tokens, w.Token)
				x.Origins = append(x.Origins, w.origin)
			}
			return x, 0, api.OK
		}
		use := list[at]
		if use.deep == 20 {
			return api.Expanded{}, use.from, api.ErrDeep
		}
		args, to, right := actualsModel(defs[which], list, at)
		if !right {
			return api.Expanded{}, use.from, api.ErrActuals
		}
		if len(x.Opened) == 6000 {
			return api.Expanded{}, use.from, api.ErrLimit
		}
		x.Opened = append(x.Opened, api.Opened{Macro: which, Use: use.origin})
		list = slices.Concat(list[:at], putModel(defs[which], which, len(x.Opened), use, args), list[to:])
		if len(list) > 6000 {
			return api.Expanded{}, use.from, api.ErrLimit
		}
	}
}

// actualsModel returns the arguments of a use, the index behind them, and whether they are as they must be.
func actualsModel(m api.Macro, list []word, at int) ([][]word, int, bool) {
	if len(m.Params) == 0 {
		return nil, at + 1, true
	}
	args, to, e := argsModel(tokensOf(list), at+1)
	if e != api.OK || len(args) != len(m.Params) {
		return nil, 0, false
	}
	var all [][]word
	from := at + 2
	for _, arg := range args {
		all = append(all, list[from:from+len(arg)])
		from += len(arg) + 1
	}
	return all, to, true
}

// putModel returns what is put in the place of a use in the expansion n.
func putModel(m api.Macro, which, n int, use word, args [][]word) []word {
	var put []word
	for i, t := range m.Body {
		w := word{t, api.Origin{Macro: which, At: i, By: n}, use.deep + 1, use.from}
		param, fresh := slices.Index(m.Params, t.Text), slices.Index(m.Fresh, t.Text)
		switch {
		case t.Kind == api.TkName && param >= 0:
			put = append(put, args[param]...)
		case t.Kind == api.TkName && fresh >= 0:
			w.Text = t.Text + "#" + strconv.Itoa(n)
			put = append(put, w)
		default:
			put = append(put, w)
		}
	}
	return put
}

// circlesModel is Circles told a second time: from each macro all others that it reaches are gathered, until there are no more.
func circlesModel(defs []api.Macro) []bool {
	reach := make([]map[string]bool, len(defs))
	for i, m := range defs {
		reach[i] = map[string]bool{}
		for _, t := range m.Body {
			if t.Kind == api.TkName && !slices.Contains(append(slices.Clone(m.Params), m.Fresh...), t.Text) {
				reach[i][t.Text] = true
			}
		}
	}
	for range defs {
		for i := range defs {
			for j, m := range defs {
				if reach[i][m.Name] {
					for _, other := range defs {
						reach[i][other.Name] = reach[i][other.Name] || reach[j][other.Name]
					}
				}
			}
		}
	}
	var found []bool
	for i, m := range defs {
		found = append(found, reach[i][m.Name])
	}
	return found
}

// cleanModel is Clean told a second time: first the fresh names in their order, then the numbers that are left for them.
func cleanModel(l []api.Token) []api.Token {
	var order []string
	for _, t := range l {
		if _, _, is := freshModel(t.Text); is && t.Kind == api.TkName && !slices.Contains(order, t.Text) {
			order = append(order, t.Text)
		}
	}
	var left []string
	for k := 1; len(left) < len(order); k++ {
		candidate := "f" + strconv.Itoa(k)
		if !slices.ContainsFunc(l, func(t api.Token) bool {
			return (t.Kind == api.TkName || t.Kind == api.TkKey) && t.Text == candidate
		}) {
			left = append(left, candidate)
		}
	}
	all := slices.Clone(l)
	for i, t := range all {
		if k := slices.Index(order, t.Text); k >= 0 && t.Kind == api.TkName {
			all[i].Text = left[k]
		}
	}
	return all
}

// included is what Include returns.
type included struct {
	l    []api.Token
	name string
	at   int
	e    api.Errno
}

// includeModel is Include told a second time: it gathers all tokens ahead of the first error before it looks whether there are too many.
func includeModel(src string, texts []api.Text) included {
	if len(texts) > 50 {
		return included{e: api.ErrLimit}
	}
	x := includedText("", src, texts, 0)
	if len(x.l) > 6000 {
		return included{e: api.ErrLimit}
	}
	if x.e != api.OK {
		x.l = nil
	}
	return x
}

// includedText returns the tokens of a text up to its first error.
func includedText(own, src string, texts []api.Text, deep int) included {
	l, at, e := lex.Scan(src)
	if e != api.OK {
		return included{nil, own, at, e}
	}
	var all []api.Token
	for len(l) > 0 && len(all) <= 6000 {
		if l[0].Kind != api.TkKey || l[0].Text != "include" {
			all = append(all, l[0])
			l = l[1:]
			continue
		}
		i := -1
		if len(l) >= 3 && l[1].Kind == api.TkStr && l[2].Kind == api.TkSign && l[2].Text == ";" {
			i = slices.IndexFunc(texts, func(x api.Text) bool { return x.Name == l[1].Text })
		}
		if i < 0 {
			return included{all, own, l[0].At, api.ErrInclude}
		}
		if deep == 10 {
			return included{all, own, l[0].At, api.ErrDeep}
		}
		inner := includedText(texts[i].Name, texts[i].Src, texts, deep+1)
		all = append(all, inner.l...)
		if inner.e != api.OK {
			inner.l = all
			return inner
		}
		l = l[3:]
	}
	return included{l: all}
}
