package macro

import "zermelo/api"

// pattern is a macro whose Body has been taken apart.
type pattern struct {
	api.Macro
	parts []part
	fresh []bool // of which tokens of the Body the fresh names are put
	plain int    // how many tokens of the Body are put
	times []int  // how often each argument is put
}

// part is tokens that stand next to each other in a Body; or, without any, the index of an argument.
type part struct{ from, to, arg int }

// newPattern takes a macro apart.
func newPattern(m api.Macro) *pattern {
	p := &pattern{Macro: m, fresh: make([]bool, len(m.Body)), times: make([]int, len(m.Params))}
	stands := p.stands()
	for at, t := range m.Body {
		put, is := stands[t.Text]
		if t.Kind != api.TkName || !is {
			put = p.keep
		}
		put(at)
	}
	return p
}

// stands returns what each name of Params and Fresh stands for: a function that notes it for a token of the Body.
func (p *pattern) stands() map[string]func(at int) {
	found := map[string]func(int){}
	for i, name := range p.Params {
		found[name] = func(int) {
			p.parts = append(p.parts, part{arg: i})
			p.times[i]++
		}
	}
	for _, name := range p.Fresh {
		found[name] = func(at int) {
			p.fresh[at] = true
			p.keep(at)
		}
	}
	return found
}

// keep notes a token of the Body that is put itself.
func (p *pattern) keep(at int) {
	p.plain++
	last := len(p.parts) - 1
	if last >= 0 && p.parts[last].to == at {
		p.parts[last].to++
		return
	}
	p.parts = append(p.parts, part{from: at, to: at + 1})
}

// size returns how many tokens are put with arguments.
func (p *pattern) size(args [][]api.Origin) int {
	many := p.plain
	for i, arg := range args {
		many += p.times[i] * len(arg)
	}
	return many
}

// token returns a token of the Body, as the expansion with a number puts it.
func (p *pattern) token(at, number int) api.Token {
	t := p.Body[at]
	if p.fresh[at] {
		t.Text = freshName(t.Text, number)
	}
	return t
}
