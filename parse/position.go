package parse

import "zermelo/api"

// deepest is how deep expressions, statements, patterns and lists may stand within each other. It is beyond what is promised, and what calls need for it still fits on the stack.
const deepest = 200000

// mistake is an error, and the index of the token at which it is.
type mistake struct {
	at int
	e  api.Errno
}

// attempt carries out work; a mistake that panics within ends it, and is returned.
func attempt(work func()) (wrong mistake) {
	defer func() {
		switch reason := recover().(type) {
		case nil:
		case mistake:
			wrong = reason
		default:
			wrong = mistake{e: api.ErrArg}
		}
	}()
	work()
	return mistake{}
}

// position is a place in a list of tokens, from which on it is read.
type position struct {
	tokens []api.Token
	at     int
	deep   int // how deep what is read there is nested
}

// wrong ends the attempt: nothing derived goes on with the token at the position.
func (p *position) wrong() { panic(mistake{p.at, api.ErrSyntax}) }

// demandFew ends the attempt at the position, unless there is room for one more.
func (p *position) demandFew(many, most int) {
	if many >= most {
		panic(mistake{p.at, api.ErrLimit})
	}
}

// enter goes a level of nesting down.
func (p *position) enter() {
	p.demandFew(p.deep, deepest)
	p.deep++
}

// leave goes a level of nesting up.
func (p *position) leave() { p.deep-- }

// ended reports whether there are no more tokens.
func (p *position) ended() bool { return p.at == len(p.tokens) }

// token returns the token at the position; at the end one of no Kind.
func (p *position) token() api.Token {
	if p.ended() {
		return api.Token{}
	}
	return p.tokens[p.at]
}

// line returns the line at the position.
func (p *position) line() int { return p.token().Line }

// word returns the sign or key word at the position; the empty string, if there is none.
func (p *position) word() string { return word(p.token()) }

// next returns the sign or key word behind the one at the position.
func (p *position) next() string {
	if p.at+1 >= len(p.tokens) {
		return ""
	}
	return word(p.tokens[p.at+1])
}

// word returns the Text of a sign or key word; the empty string for other tokens.
func word(t api.Token) string {
	if t.Text == "" {
		return ""
	}
	letter := t.Text[0] >= 'a' && t.Text[0] <= 'z'
	if t.Kind == api.TkKey && letter || t.Kind == api.TkSign && !letter {
		return t.Text
	}
	return ""
}

// accept passes over a sign or key word, if it is at the position.
func (p *position) accept(text string) bool {
	if p.word() != text {
		return false
	}
	p.at++
	return true
}

// expect passes over a sign or key word that must be at the position.
func (p *position) expect(text string) {
	if !p.accept(text) {
		p.wrong()
	}
}

// name passes over a name, and returns it.
func (p *position) name() string {
	t := p.token()
	if t.Kind != api.TkName {
		p.wrong()
	}
	p.at++
	return t.Text
}

// begin returns a node that begins with the token at the position.
func (p *position) begin(kind int) api.Node { return api.Node{Kind: kind, Line: p.line()} }

// group returns a node that begins where its first Kid does.
func group(kind int, kids ...api.Node) api.Node {
	x := api.Node{Kind: kind, Kids: kids}
	if len(kids) > 0 {
		x.Line = kids[0].Line
	}
	return x
}

// list reads elements with commas between them, at most so many; the first ones may have been read already.
func list[T any](p *position, most int, read func() T, l ...T) []T {
	p.enter()
	if len(l) == 0 {
		l = []T{read()}
	}
	for p.word() == "," {
		p.demandFew(len(l), most)
		p.at++
		x := read()
		l = append(l, x)
	}
	p.leave()
	return l
}
