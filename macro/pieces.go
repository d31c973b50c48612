package macro

import (
	"iter"
	"slices"

	"zermelo/api"
)

// piece is a part of a list, whose tokens are fetched: a *stretch or an *actual. Tokens are known by their origins.
type piece interface {
	size() int // how many tokens are left
}

// stretch is tokens that stand next to each other in the given list, or in a Body.
type stretch struct {
	api.Origin // of the first one
	many       int
}

// actual is the tokens of an argument.
type actual struct{ l []api.Origin }

func (p *stretch) size() int { return p.many }

func (p *actual) size() int { return len(p.l) }

// stack is a list in pieces: the last one comes first, and each has tokens.
type stack struct {
	given    []api.Token // the list from which all begins
	patterns []*pattern
	pieces   []piece
	room     []api.Origin // for the tokens of arguments, while they are fetched
}

// newStack returns a list that has no tokens yet: they will come from a given list, and from macros.
func newStack(given []api.Token, defs ...api.Macro) *stack {
	s := &stack{given: given}
	for _, m := range defs {
		s.patterns = append(s.patterns, newPattern(m))
	}
	return s
}

// push puts a piece ahead of the others, unless it has no tokens.
func (s *stack) push(p piece) {
	if p.size() > 0 {
		s.pieces = append(s.pieces, p)
	}
}

// begin puts the tokens of the given list from an index on ahead of the others.
func (s *stack) begin(at int) {
	s.push(&stretch{api.Origin{Macro: -1, At: at}, len(s.given) - at})
}

// put puts what an expansion puts ahead of the others.
func (s *stack) put(which, number int, args [][]api.Origin) {
	parts := s.patterns[which].parts
	for i := len(parts) - 1; i >= 0; i-- {
		p := parts[i]
		if p.from < p.to {
			s.push(&stretch{api.Origin{Macro: which, At: p.from, By: number}, p.to - p.from})
		} else if len(args[p.arg]) > 0 {
			s.push(&actual{args[p.arg]})
		}
	}
}

// tokens gives the tokens of the list, and takes each one off as it is given: what is put meanwhile comes next.
func (s *stack) tokens() iter.Seq[api.Origin] {
	return func(yield func(api.Origin) bool) {
		for len(s.pieces) > 0 {
			if !yield(s.fetch()) {
				return
			}
		}
	}
}

// fetch takes the first token off the list.
func (s *stack) fetch() api.Origin {
	last := len(s.pieces) - 1
	var o api.Origin
	switch p := s.pieces[last].(type) {
	case *stretch:
		o = p.Origin
		p.At++
		p.many--
	case *actual:
		o = p.l[0]
		p.l = p.l[1:]
	}
	if s.pieces[last].size() == 0 {
		s.pieces = s.pieces[:last]
	}
	return o
}

// token returns the token with an origin.
func (s *stack) token(o api.Origin) api.Token {
	if o.By == 0 {
		return s.given[o.At]
	}
	return s.patterns[o.Macro].token(o.At, o.By)
}

// copies returns the tokens with origins.
func (s *stack) copies(l []api.Origin) []api.Token {
	var all []api.Token
	for _, o := range l {
		all = append(all, s.token(o))
	}
	return all
}

// arguments takes the arguments of a use off the list, with their brackets, and returns how many tokens that were. There are none if the list does not begin with the sign (, or ends ahead of what closes it; otherwise there is at least one.
func (s *stack) arguments() (args [][]api.Origin, many int) {
	s.room = s.room[:0]
	var ends []int
	open := 0
	for o := range s.tokens() {
		t := s.token(o)
		open += turn(t)
		many++
		switch {
		case many == 1 && !isSign(t, "("):
			return nil, 0
		case many == 1:
		case open == 0:
			return cut(s.room, append(ends, len(s.room))), many
		case open == 1 && isSign(t, ","):
			ends = append(ends, len(s.room))
		default:
			s.room = append(s.room, o)
		}
	}
	return nil, 0
}

// length returns how many tokens lists have together.
func length(lists [][]api.Token) int {
	many := 0
	for _, l := range lists {
		many += len(l)
	}
	return many
}

// standing returns lists of tokens, which stand behind each other in the given list, by their origins.
func (s *stack) standing(lists [][]api.Token) [][]api.Origin {
	s.begin(0)
	all := slices.Collect(s.tokens())
	var ends []int
	end := 0
	for _, l := range lists {
		end += len(l)
		ends = append(ends, end)
	}
	return cut(all, ends)
}

// cut returns copies of the parts of a list that end there.
func cut(l []api.Origin, ends []int) [][]api.Origin {
	var all [][]api.Origin
	from := 0
	for _, to := range ends {
		all = append(all, slices.Clone(l[from:to]))
		from = to
	}
	return all
}

// turn returns 1 for a sign that opens a bracket, -1 for one that closes one, otherwise 0.
func turn(t api.Token) int {
	if t.Kind != api.TkSign {
		return 0
	}
	switch t.Text {
	case "(", "[", "{":
		return 1
	case ")", "]", "}":
		return -1
	}
	return 0
}
