package lex

import (
	"strings"

	"zermelo/api"
	"zermelo/guard"
)

// alone returns the token of which all bytes of a string are, if there is one.
func (s *scanner) alone(written string) (api.Token, bool) {
	l, _, e := s.scan(written)
	if e != api.OK || len(l) != 1 || l[0].At > 0 || l[0].To < len(written) {
		return api.Token{}, false
	}
	return l[0], true
}

// quote returns a string as it is written in a source.
func (s *scanner) quote(text string) (string, api.Errno) {
	for i := range len(text) {
		if k := s.kinds[text[i]]; k == alien || k == feed {
			return "", api.ErrForm
		}
	}
	if len(text) > api.MaxStr {
		return "", api.ErrLimit
	}
	return `"` + strings.ReplaceAll(text, `"`, `""`) + `"`, api.OK
}

// spell returns how a token with a Kind and a Text is written.
func (s *scanner) spell(kind int, text string) (string, api.Errno) {
	if kind < api.TkName || kind > api.TkSign {
		return "", api.ErrArg
	}
	written := text
	if kind == api.TkStr {
		written, _ = s.quote(text)
	}
	t, is := s.alone(written)
	if !is || !alike(t, api.Token{Kind: kind, Text: text}) {
		return "", api.ErrForm
	}
	return written, api.OK
}

// join returns a source with tokens, or ends the call.
func (s *scanner) join(l []api.Token) string {
	var written []string
	for _, t := range l {
		written = append(written, guard.Must(s.spell(t.Kind, t.Text)))
	}
	guard.Demand(len(l) <= api.MaxTokens, api.ErrLimit)
	src := ""
	var begins []int
	for i, w := range written {
		// No token looks further than two bytes behind itself: only the last two can be read in another way if a further one is added.
		near := max(0, i-2)
		if i > 0 && !s.reads(src[begins[near]:]+w, l[near:i+1]) {
			src += " "
		}
		begins = append(begins, len(src))
		src += w
		guard.Demand(len(src) <= api.MaxSource, api.ErrLimit)
	}
	return src
}

// reads reports whether a source has just these tokens.
func (s *scanner) reads(src string, l []api.Token) bool {
	found, _, e := s.scan(src)
	return e == api.OK && Same(found, l)
}
