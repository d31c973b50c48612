package lex

import (
	"iter"
	"strings"

	"zermelo/api"
	"zermelo/guard"
)

// scanner reads tokens.
type scanner struct {
	position
	kinds [256]kind
	keys  map[string]bool
	signs []string
	many  int // how many tokens there have been
}

// newScanner returns a scanner that has no source yet.
func newScanner() *scanner {
	return &scanner{kinds: kinds(), keys: keys(), signs: strings.Fields(signs)}
}

// scan returns the tokens of a source; with an error: where it is.
func (s *scanner) scan(src string) (l []api.Token, at int, e api.Errno) {
	s.position, s.many = begin(src), 0
	e = guard.Attempt(func() {
		guard.Demand(len(src) <= api.MaxSource, api.ErrLimit)
		for t := range s.tokens() {
			l = append(l, t)
		}
	})
	if e != api.OK {
		return nil, s.at, e
	}
	return l, 0, api.OK
}

// demand ends a scan with an error at a place, unless something holds.
func (s *scanner) demand(holds bool, there int, e api.Errno) {
	if !holds {
		s.at = there
	}
	guard.Demand(holds, e)
}

// tokens gives the tokens behind the position.
func (s *scanner) tokens() iter.Seq[api.Token] {
	return func(yield func(api.Token) bool) {
		for s.passBetween(); !s.ended(); s.passBetween() {
			if !yield(s.token()) {
				return
			}
		}
	}
}

// kind returns the kind of the byte that stands so many bytes behind the position.
func (s *scanner) kind(behind int) kind { return s.kinds[s.next(behind)] }

// passBetween moves the position behind blanks, line feeds and comments.
func (s *scanner) passBetween() {
	for {
		switch s.kind(0) {
		case blank, feed:
			s.pass()
		case dollar:
			from := s.at
			for !s.ended() && s.kind(0) != feed {
				s.pass()
			}
			s.demandBytes(from)
		default:
			return
		}
	}
}

// demandBytes demands that what has been passed since a place consists of bytes that a source can have.
func (s *scanner) demandBytes(from int) {
	for at := from; at < s.at; at++ {
		s.demand(s.kinds[s.src[at]] != alien, at, api.ErrByte)
	}
}

// token reads a token.
func (s *scanner) token() api.Token {
	t := api.Token{At: s.at, Line: s.line, Col: s.column()}
	read := s.sign
	switch s.kind(0) {
	case letter:
		read = s.name
	case digit:
		read = s.number
	case quote:
		read = s.str
	}
	t.Kind, t.Text = read()
	t.To = s.at
	s.many++
	s.demand(s.many <= api.MaxTokens, t.At, api.ErrLimit)
	// Errors at the first byte of the token come ahead of one at a byte within it.
	s.demandBytes(t.At)
	return t
}

// name reads a name or a key word.
func (s *scanner) name() (int, string) {
	from := s.at
	for k := s.kind(0); k == letter || k == digit || k == joint; k = s.kind(0) {
		s.pass()
	}
	s.demand(s.at-from <= api.MaxName, from, api.ErrLong)
	text := strings.ToLower(s.src[from:s.at])
	if s.keys[text] {
		return api.TkKey, text
	}
	return api.TkName, text
}

// number reads an integer or a decimal.
func (s *scanner) number() (int, string) {
	from := s.at
	ahead := s.digits()
	if s.next(0) != '.' || s.kind(1) != digit {
		s.demand(len(ahead) <= api.MaxDigits, from, api.ErrLong)
		return api.TkInt, orZero(strings.TrimLeft(ahead, "0"))
	}
	s.pass()
	behind := s.digits()
	places := strings.TrimRight(behind, "0")
	s.demand(len(ahead)+len(behind) <= api.MaxDigits && len(places) <= api.MaxScale, from, api.ErrLong)
	return api.TkDec, orZero(strings.TrimLeft(ahead, "0")) + "." + orZero(places)
}

// digits reads the digits that are next.
func (s *scanner) digits() string {
	from := s.at
	for s.kind(0) == digit {
		s.pass()
	}
	return s.src[from:s.at]
}

// orZero returns digits, or 0 if there are none.
func orZero(digits string) string {
	if digits == "" {
		return "0"
	}
	return digits
}

// str reads a string.
func (s *scanner) str() (int, string) {
	from := s.at
	s.pass()
	var text []byte
within:
	for {
		s.demand(!s.ended() && s.kind(0) != feed, from, api.ErrQuote)
		c := s.next(0)
		s.pass()
		switch {
		case c != '"':
		case s.kind(0) == quote:
			s.pass()
		default:
			break within
		}
		text = append(text, c)
	}
	s.demand(len(text) <= api.MaxStr, from, api.ErrLong)
	return api.TkStr, string(text)
}

// sign reads a sign.
func (s *scanner) sign() (int, string) {
	for _, sign := range s.signs {
		if strings.HasPrefix(s.src[s.at:], sign) {
			s.passTo(s.at + len(sign))
			return api.TkSign, sign
		}
	}
	s.demand(false, s.at, api.ErrByte)
	return 0, ""
}
