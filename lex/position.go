package lex

// position is a place in a source.
type position struct {
	src  string
	at   int // how many bytes stand ahead of it
	line int
	from int // where this line begins
}

// begin returns the position of the beginning of a source.
func begin(src string) position { return position{src: src, line: 1} }

// ended reports whether nothing stands behind the position.
func (p *position) ended() bool { return p.at == len(p.src) }

// column returns the column of the position.
func (p *position) column() int { return p.at - p.from + 1 }

// next returns the byte that stands so many bytes behind the position; 0 behind the end.
func (p *position) next(behind int) byte {
	if behind >= len(p.src)-p.at {
		return 0
	}
	return p.src[p.at+behind]
}

// pass moves the position behind the next byte.
func (p *position) pass() {
	ends := p.src[p.at] == '\n'
	p.at++
	if ends {
		p.line++
		p.from = p.at
	}
}

// passTo moves the position forward to a place.
func (p *position) passTo(there int) {
	for p.at < there {
		p.pass()
	}
}
