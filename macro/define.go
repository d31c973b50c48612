package macro

import "zermelo/api"

// splitter reads a list of tokens that has definitions.
type splitter struct {
	l  []api.Token
	at int
}

// split returns the macros that are defined in the list, and the other tokens.
func (s *splitter) split() (defs []api.Macro, rest []api.Token) {
	var begins []int
	for s.at < len(s.l) {
		if isKey(s.l[s.at], "macro") {
			begins = append(begins, s.at)
			defs = append(defs, s.definition())
			continue
		}
		s.demand(!isKey(s.l[s.at], "endm"))
		rest = append(rest, s.take())
	}
	which, e := Check(defs)
	at := 0
	if e == api.ErrMacro || e == api.ErrTwice {
		at = begins[which]
	}
	demand(e == api.OK, e, place{at: at})
	return defs, rest
}

// demand demands that something holds of the next token, or of there being none.
func (s *splitter) demand(holds bool) { demand(holds, api.ErrMacro, place{at: s.at}) }

// take takes the next token.
func (s *splitter) take() api.Token {
	s.demand(s.at < len(s.l))
	t := s.l[s.at]
	s.at++
	return t
}

// sees reports whether the next token is a sign.
func (s *splitter) sees(sign string) bool { return s.at < len(s.l) && isSign(s.l[s.at], sign) }

// passSign passes a sign, which must be next.
func (s *splitter) passSign(sign string) {
	s.demand(s.sees(sign))
	s.at++
}

// name takes a name.
func (s *splitter) name() string {
	s.demand(s.at < len(s.l) && s.l[s.at].Kind == api.TkName)
	return s.take().Text
}

// names takes names with commas between them.
func (s *splitter) names() []string {
	l := []string{s.name()}
	for s.sees(",") {
		s.passSign(",")
		l = append(l, s.name())
	}
	return l
}

// definition takes a definition.
func (s *splitter) definition() api.Macro {
	s.at++
	m := api.Macro{Name: s.name()}
	if s.sees("(") {
		s.passSign("(")
		if !s.sees(";") {
			m.Params = s.names()
		}
		if s.sees(";") {
			s.passSign(";")
			m.Fresh = s.names()
		}
		s.passSign(")")
	}
	s.passSign(";")
	m.Body = s.body()
	s.passSign(";")
	return m
}

// body takes tokens up to the key word endm, and this, too.
func (s *splitter) body() []api.Token {
	var l []api.Token
	for {
		s.demand(s.at < len(s.l) && !isKey(s.l[s.at], "macro"))
		t := s.take()
		if isKey(t, "endm") {
			return l
		}
		l = append(l, t)
	}
}

// definition returns the tokens of the definition of a macro.
func definition(m api.Macro) []api.Token {
	l := []api.Token{{Kind: api.TkKey, Text: "macro"}, {Kind: api.TkName, Text: m.Name}}
	sign := func(text string) { l = append(l, api.Token{Kind: api.TkSign, Text: text}) }
	list := func(names []string) {
		for i, name := range names {
			if i > 0 {
				sign(",")
			}
			l = append(l, api.Token{Kind: api.TkName, Text: name})
		}
	}
	if len(m.Params)+len(m.Fresh) > 0 {
		sign("(")
		list(m.Params)
		if len(m.Fresh) > 0 {
			sign(";")
			list(m.Fresh)
		}
		sign(")")
	}
	sign(";")
	for _, t := range m.Body {
		l = append(l, api.Token{Kind: t.Kind, Text: t.Text})
	}
	l = append(l, api.Token{Kind: api.TkKey, Text: "endm"})
	sign(";")
	return l
}
