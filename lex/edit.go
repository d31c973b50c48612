package lex

import (
	"slices"
	"strings"

	"zermelo/api"
	"zermelo/guard"
)

// change puts bytes in the place of others of a source.
type change struct {
	src    string
	at, to int // the bytes from at up to, but not including, to go
	put    string
	bytes  int // how many bytes more there are behind the change
	lines  int // how many lines more
}

// newChange returns a change of a source with tokens, or ends the call.
func newChange(src string, l []api.Token, at, gone int, put string) change {
	guard.Demand(len(src) <= api.MaxSource, api.ErrLimit)
	guard.Demand(at >= 0 && gone >= 0 && at <= len(src) && gone <= len(src)-at, api.ErrArg)
	old, _, e := Scan(src)
	guard.Demand(e == api.OK && slices.Equal(old, l), api.ErrForm)
	x := change{src: src, at: at, to: at + gone, put: put, bytes: len(put) - gone}
	guard.Demand(len(src)+x.bytes <= api.MaxSource, api.ErrLimit)
	x.lines = strings.Count(put, "\n") - strings.Count(src[at:x.to], "\n")
	return x
}

// after returns the source behind the change.
func (x change) after() string { return x.src[:x.at] + x.put + x.src[x.to:] }

// concerned returns where the lines begin that are changed, and where they end.
func (x change) concerned() (int, int) {
	first := strings.LastIndexByte(x.src[:x.at], '\n') + 1
	rest := strings.IndexByte(x.src[x.to:], '\n')
	if rest < 0 {
		return first, len(x.src)
	}
	return first, x.to + rest
}

// tokens returns the tokens of the source behind the change; l are those of the one ahead of it.
func (x change) tokens(s *scanner, l []api.Token) []api.Token {
	first, last := x.concerned()
	// No token and no comment goes on in the next line: the tokens of other lines stay.
	var all []api.Token
	for _, t := range l {
		if t.At < first {
			all = append(all, t)
		}
	}
	s.position, s.many = begin(x.after()[:last+x.bytes]), len(all)
	s.passTo(first)
	for t := range s.tokens() {
		all = append(all, t)
	}
	for _, t := range l {
		if t.At > last {
			t = x.moved(t)
			s.demand(len(all) < api.MaxTokens, t.At, api.ErrLimit)
			all = append(all, t)
		}
	}
	return all
}

// moved returns a token of a line behind those that are changed, where it is then.
func (x change) moved(t api.Token) api.Token {
	t.At += x.bytes
	t.To += x.bytes
	t.Line += x.lines
	return t
}

// kept returns how many tokens at the beginning of a list are those of another one, and how many of the others at its end are so but for their positions.
func kept(old, all []api.Token) (int, int) {
	least := min(len(old), len(all))
	ahead := 0
	for ahead < least && all[ahead] == old[ahead] {
		ahead++
	}
	behind := 0
	for behind < least-ahead && alike(all[len(all)-1-behind], old[len(old)-1-behind]) {
		behind++
	}
	return ahead, behind
}
