package macro

import (
	"zermelo/api"
	"zermelo/lex"
)

// visit is a text, by its index, that is included so deep.
type visit struct{ which, deep int }

// includer replaces the includes of texts.
type includer struct {
	texts []api.Text
	which map[string]int
	known map[visit][]api.Token // what has been put for texts
	l     []api.Token           // what has been put in all
}

// newIncluder returns an includer of texts.
func newIncluder(texts []api.Text) *includer {
	x := &includer{texts: texts, which: map[string]int{}, known: map[visit][]api.Token{}}
	for i, text := range texts {
		if _, is := x.which[text.Name]; !is {
			x.which[text.Name] = i
		}
	}
	return x
}

// put puts tokens behind the others.
func (x *includer) put(l ...api.Token) {
	demandFew(len(x.l) + len(l))
	x.l = append(x.l, l...)
}

// read puts the tokens of a text that is so deep.
func (x *includer) read(text api.Text, deep int) {
	l, at, e := lex.Scan(text.Src)
	demand(e == api.OK, e, place{text.Name, at})
	for i := 0; i < len(l); i++ {
		if !isKey(l[i], "include") {
			x.put(l[i])
			continue
		}
		there := place{text.Name, l[i].At}
		which, is := x.named(l[i+1:])
		demand(is, api.ErrInclude, there)
		demand(deep < api.MaxIncluded, api.ErrDeep, there)
		x.include(visit{which, deep + 1})
		i += 2
	}
}

// named returns which text is named by the tokens behind a key word include, if one is.
func (x *includer) named(behind []api.Token) (int, bool) {
	if len(behind) < 2 || behind[0].Kind != api.TkStr || !isSign(behind[1], ";") {
		return 0, false
	}
	which, is := x.which[behind[0].Text]
	return which, is
}

// include puts the tokens of a text. It is read but once so deep: texts could include each other far too often.
func (x *includer) include(v visit) {
	l, is := x.known[v]
	if is {
		x.put(l...)
		return
	}
	from := len(x.l)
	x.read(x.texts[v.which], v.deep)
	x.known[v] = x.l[from:]
}
