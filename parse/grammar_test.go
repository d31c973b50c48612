package parse_test

import (
	"strings"

	"zermelo/api"
)

// rules are the grammar of the chapter: ' tokens ', classes of tokens in capitals, * any number, + at least one, ? perhaps.
// What the chapter says about trees is told by symbols: a place is a left that is no tuple, called a post that begins with a name
// and is a selection, at a post that is one of a plain pattern, short an expression that is such an iteration over a set.
// An operator that folds and the / behind it are one token.
const rules = `
units = unit+
unit = 'program' NAME ';' decl* stm* proc* 'end' ';' | 'module' NAME ';' exports? decl* proc* 'end' ';'
exports = 'exports' names ';'
names = NAME moreNames*
moreNames = ',' NAME
decl = 'uses' names ';' | vars | 'const' NAME '=' literal ';'
vars = 'var' names ';'
literal = INT | DEC | STR | 'true' | 'false' | '-' INT | '-' DEC
proc = 'proc' NAME '(' params? ')' ';' vars* stm* 'end' ';'
params = param moreParams*
moreParams = ',' param
param = NAME | 'rd' NAME | 'wr' NAME | 'rw' NAME
stm = left ':=' expr ';' | place OP ':=' expr ';' | left taking place ';' | called ';'
stm = 'if' expr 'then' stm* elseif* else? 'end' ';'
elseif = 'elseif' expr 'then' stm*
else = 'else' stm*
stm = 'case' expr? 'of' when+ otherwise? 'end' ';'
when = 'when' exprs ':' stm*
otherwise = 'otherwise' stm*
stm = 'while' expr 'do' stm* 'end' ';' | 'until' expr 'do' stm* 'end' ';' | 'for' iters condition? 'do' stm* 'end' ';' | 'loop' 'do' stm* 'end' ';'
condition = '|' expr
stm = 'quit' ';' | 'continue' ';' | 'fail' ';' | 'succeed' ';' | 'stop' ';' | 'return' expr? ';' | 'assert' expr ';'
stm = 'print' '(' exprs? ')' ';' | 'read' '(' left moreLefts* ')' ';'
moreLefts = ',' left
taking = 'from' | 'fromb' | 'frome'
left = place | '[' part moreParts* ']'
moreParts = ',' part
part = left | '-'
place = NAME suffix*
suffix = '(' exprs ')' | '{' exprs '}' | '(' expr '..' expr? ')'
behind = suffix | '(' ')'
called = NAME behind* '(' exprs? ')'
exprs = expr moreExprs*
moreExprs = ',' expr
iters = iter moreIters*
moreIters = ',' iter
iter = pattern 'in' expr | pattern '=' at
at = post '(' plain ')' | post '{' plain '}' | '(' at ')'
pattern = NAME | '-' | '[' pattern morePatterns* ']'
morePatterns = ',' pattern
plain = NAME | '[' plain morePlain* ']' | '(' plain ')'
morePlain = ',' plain
expr = l2 'impl' expr | l2
l2 = l2 'or' l3 | l3
l3 = l3 'and' l4 | l4
l4 = 'not' l4 | l5
l5 = l6 COMPARE l6 | l6
l6 = l6 ADD l7 | l6 FOLD l7 | l7
l7 = l7 MULTIPLY l8 | l8
l8 = CHANGE l8 | FOLD l8 | l9
l9 = l10 '**' l8 | l10
l10 = l10 '?' l11 | l11
l11 = post | quantified
quantified = QUANTIFIER iters '|' expr
post = primary behind*
primary = INT | DEC | STR | NAME | 'true' | 'false' | 'om' | 'newat' | 'ok' | '(' expr ')' | '[' inside? ']' | '{' inside? '}'
inside = exprs | expr '..' expr | expr ',' expr '..' expr | expr ':' iters condition? | short condition
short = plain 'in' l6 | '(' short ')'
primary = 'if' expr 'then' expr elseifs* 'else' expr 'end'
elseifs = 'elseif' expr 'then' expr
`

// classes are the classes of tokens; those of the grammar's tokens are written as they stand in a source.
var classes = map[string]string{
	"NAME": "x s", "INT": "1", "DEC": "2.5", "STR": `"a"`,
	"OP":         "+ - * / div mod ** with less lessf npow max min and or",
	"FOLD":       "+/ -/ */ // div/ mod/ **/ with/ less/ lessf/ npow/ max/ min/ and/ or/",
	"COMPARE":    "= /= < <= > >= in notin subset incs",
	"ADD":        "+ - with less lessf npow max min",
	"MULTIPLY":   "* / div mod",
	"CHANGE":     "- # arb pow domain range abs char str fix dec type isom inverse totuple toset",
	"QUANTIFIER": "exists forall notexists",
}

// rule is a symbol, and what it can stand for; tokens begin with a '.
type rule struct {
	symbol string
	parts  []string
}

// grammar is rules by their symbols, and which symbols can stand for nothing.
type grammar struct {
	rules map[string][]rule
	empty map[string]bool
}

// newGrammar returns the grammar of the chapter.
func newGrammar() *grammar {
	g := &grammar{map[string][]rule{}, map[string]bool{}}
	add := func(symbol string, parts ...string) {
		g.rules[symbol] = append(g.rules[symbol], rule{symbol, parts})
	}
	for class, words := range classes {
		for _, word := range strings.Fields(words) {
			add(class, "'"+word)
		}
	}
	for _, line := range strings.Split(strings.TrimSpace(rules), "\n") {
		symbol, forms, _ := strings.Cut(line, " = ")
		for _, form := range strings.Split(forms, " | ") {
			var parts []string
			for _, part := range strings.Fields(form) {
				parts = append(parts, g.part(part, add))
			}
			add(symbol, parts...)
		}
	}
	return g
}

// part returns the symbol of a part of a rule; that of repetitions it makes.
func (g *grammar) part(part string, add func(string, ...string)) string {
	if strings.HasPrefix(part, "'") {
		return strings.TrimSuffix(part, "'")
	}
	one := strings.TrimRight(part, "*+?")
	if one == part || g.rules[part] != nil {
		return part
	}
	switch part[len(part)-1] {
	case '?':
		add(part, one)
		add(part)
	case '*':
		add(part, part, one)
		add(part)
	case '+':
		add(part, part, one)
		add(part, one)
		return part
	}
	g.empty[part] = true
	return part
}

// item is a rule of which so many parts have been seen since a set of items.
type item struct {
	rule rule
	seen int
	from int
}

// key tells items apart.
func (x item) key() string {
	return x.rule.symbol + "=" + strings.Join(x.rule.parts, " ") + string(rune(x.seen)) + string(rune(x.from))
}

// set is the items that fit the tokens so far.
type set struct {
	items []item
	known map[string]bool
	wants map[string][]item // by the part that comes next
	ends  map[end]bool      // the symbols that are complete
}

// end is a symbol that ends at a set, and the set since which its tokens have been seen.
type end struct {
	symbol string
	from   int
}

// model is the sets of items behind each of the tokens so far (Earley's way), for tokens with operators of folds joined.
type model struct {
	*grammar
	sets []*set
}

// newModel returns a model of no tokens.
func newModel(g *grammar) *model {
	m := &model{grammar: g}
	first := m.newSet()
	for _, r := range g.rules["units"] {
		first.add(item{r, 0, 0})
	}
	m.complete(first)
	return m
}

// newSet adds a set without items.
func (m *model) newSet() *set {
	s := &set{known: map[string]bool{}, wants: map[string][]item{}, ends: map[end]bool{}}
	m.sets = append(m.sets, s)
	return s
}

// add adds an item, once.
func (s *set) add(x item) {
	if k := x.key(); !s.known[k] {
		s.known[k] = true
		s.items = append(s.items, x)
	}
}

// complete adds all items that follow.
func (m *model) complete(s *set) {
	at := len(m.sets) - 1
	for i := 0; i < len(s.items); i++ {
		x := s.items[i]
		if x.seen == len(x.rule.parts) {
			s.ends[end{x.rule.symbol, x.from}] = true
			for _, y := range m.sets[x.from].wants[x.rule.symbol] {
				s.add(item{y.rule, y.seen + 1, y.from})
			}
			continue
		}
		next := x.rule.parts[x.seen]
		s.wants[next] = append(s.wants[next], x)
		if strings.HasPrefix(next, "'") {
			continue
		}
		for _, r := range m.rules[next] {
			s.add(item{r, 0, at})
		}
		if m.empty[next] || s.ends[end{next, at}] {
			s.add(item{x.rule, x.seen + 1, x.from})
		}
	}
}

// last returns the last set of items.
func (m *model) last() *set { return m.sets[len(m.sets)-1] }

// allows reports whether a token can come next.
func (m *model) allows(token string) bool { return len(m.last().wants["'"+token]) > 0 }

// take goes on with a token that can come next.
func (m *model) take(token string) {
	seen := m.last().wants["'"+token]
	s := m.newSet()
	for _, x := range seen {
		s.add(item{x.rule, x.seen + 1, x.from})
	}
	m.complete(s)
}

// drop forgets the last token.
func (m *model) drop() { m.sets = m.sets[:len(m.sets)-1] }

// done reports whether the tokens are units.
func (m *model) done() bool { return m.last().ends[end{"units", 0}] }

// reader tells of tokens of a source, one after the other, which can come next. An operator that folds waits for what is behind it.
type reader struct {
	*model
	waits string
}

// folds reports whether a token is an operator that folds.
func folds(token string) bool { return strings.Contains(" "+classes["OP"]+" ", " "+token+" ") }

// can reports whether a token can come next.
func (r *reader) can(token string) bool {
	if r.waits != "" {
		if token == "/" {
			return r.allows(r.waits + "/")
		}
		if !r.allows(r.waits) {
			return false
		}
		r.take(r.waits)
		defer r.drop()
	}
	return r.allows(token) || folds(token) && r.allows(token+"/")
}

// read returns the reader behind a token that can come next, and how many tokens its model has more.
func (r reader) read(token string) (reader, int) {
	more := 0
	switch {
	case r.waits != "" && token == "/":
		r.take(r.waits + "/")
		return reader{r.model, ""}, 1
	case r.waits != "":
		r.take(r.waits)
		more++
	}
	if folds(token) {
		return reader{r.model, token}, more
	}
	r.take(token)
	return reader{r.model, ""}, more + 1
}

// back forgets tokens of the model.
func (r *reader) back(many int) {
	for range many {
		r.drop()
	}
}

// whole reports whether the tokens are units.
func (r *reader) whole() bool { return r.waits == "" && r.done() }

// token returns the token that is written so.
func token(text string) api.Token {
	kind := api.TkSign
	switch first := text[0]; {
	case first == '"':
		return api.Token{Kind: api.TkStr, Text: strings.Trim(text, `"`), Line: 1}
	case first >= '0' && first <= '9':
		kind = api.TkInt
		if strings.Contains(text, ".") {
			kind = api.TkDec
		}
	case text == "x" || text == "s" || text == "p":
		kind = api.TkName
	case first >= 'a' && first <= 'z':
		kind = api.TkKey
	}
	return api.Token{Kind: kind, Text: text, Line: 1}
}
