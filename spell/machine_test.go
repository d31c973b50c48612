package spell_test

import (
	"math/big"
	"strings"

	"zermelo/api"
)

// state is what a machine has read last.
type state int

const (
	fresh  state = iota // nothing, or a comma: a value must come
	opened              // a bracket: a value may come
	ended               // a value
	word                // a part of a word
	sign                // a minus sign
	whole               // digits
	point               // digits and a point
	places              // digits, a point, digits
	inside              // a part of a string
	quote               // a quote in a string: its end, or the first one of two
	escape              // a backslash in a string
	angle               // a <
	label               // what stands ahead of the number of an atom or a procedure
	labels              // that, and digits
)

// machine reads printed forms byte by byte: it says a second time what is no printed form, and where. It does not count nodes.
type machine struct {
	state
	open   []int  // where the tuples and sets begin that have not ended
	ends   string // what ends these
	from   int    // where the last value begins, but for tuples and sets
	digits string // of a number
	bytes  int    // of a string
	rest   string // of a word
	least  int64  // of the number of an atom or a procedure
	large  int    // where a value begins that is too large; -1: none does
}

// verdict returns where the first error of a string is, and which.
func verdict(s string) (int, api.Errno) {
	m := machine{large: -1}
	for at := range len(s) {
		fits := m.step(at, s[at])
		if m.large >= 0 {
			return m.large, api.ErrLimit
		}
		if !fits {
			return at, api.ErrText
		}
	}
	m.endNumber()
	switch {
	case m.large >= 0:
		return m.large, api.ErrLimit
	case m.ends != "" || m.state != ended && m.state != whole && m.state != places && m.state != quote:
		return len(s), api.ErrText
	}
	return 0, api.OK
}

// completed returns a string with what makes a printed form of it, if there is anything.
func completed(s string) string {
	m := machine{large: -1}
	for at := range len(s) {
		m.step(at, s[at])
	}
	s += map[state]string{fresh: "1", word: m.rest, sign: "1", point: "1", inside: `"`, escape: `n"`, angle: "om>", label: "1>"}[m.state]
	switch {
	case m.state == word && strings.HasSuffix(s, " "):
		s += "1>"
	case m.state == labels && m.least == 1 && strings.Trim(m.digits, "0") == "":
		s += "1>"
	case m.state == labels:
		s += ">"
	}
	for i := len(m.ends) - 1; i >= 0; i-- {
		s += m.ends[i : i+1]
	}
	return s
}

// is reports whether a byte is one of some.
func is(c byte, some string) bool { return strings.IndexByte(some, c) >= 0 }

const digits = "0123456789"

// step reads a byte, and reports whether it can stand there.
func (m *machine) step(at int, c byte) bool {
	switch m.state {
	case fresh, opened:
		switch {
		case c == ' ':
			return true
		case m.state == opened && m.close(c):
			return true
		}
		return m.begin(at, c)
	case ended:
		return m.behind(c)
	case word, angle:
		return m.letter(c)
	case sign, whole, point, places:
		return m.digit(c)
	case label, labels:
		return m.labelled(c)
	}
	return m.quoted(c)
}

// begin reads the first byte of a value.
func (m *machine) begin(at int, c byte) bool {
	if !is(c, "[{\"<tf-"+digits) {
		return false
	}
	if len(m.open) == api.MaxDeep {
		m.large = m.open[api.MaxDeep-1]
	}
	switch {
	case is(c, "[{"):
		m.open = append(m.open, at)
		m.ends += map[byte]string{'[': "]", '{': "}"}[c]
		m.state = opened
		return true
	case c == '"':
		m.state, m.bytes = inside, 0
	case c == '<':
		m.state = angle
	case c == 't':
		m.state, m.rest = word, "rue"
	case c == 'f':
		m.state, m.rest = word, "alse"
	case c == '-':
		m.state, m.digits = sign, ""
	default:
		m.state, m.digits = whole, string([]byte{c})
	}
	m.from = at
	return true
}

// close reads what ends the innermost tuple or set.
func (m *machine) close(c byte) bool {
	last := len(m.open) - 1
	if last < 0 || m.ends[last] != c {
		return false
	}
	m.open, m.ends, m.state = m.open[:last], m.ends[:last], ended
	return true
}

// behind reads what stands behind a value.
func (m *machine) behind(c byte) bool {
	switch {
	case c == ' ':
		m.state = ended
	case c == ',' && len(m.open) > 0:
		m.state = fresh
	default:
		return m.close(c)
	}
	return true
}

// letter reads a byte of a word.
func (m *machine) letter(c byte) bool {
	if m.state == angle {
		m.rest = map[byte]string{'o': "om>", 'a': "atom ", 'p': "proc "}[c]
		m.least = map[byte]int64{'a': 1}[c]
		m.state = word
	}
	if m.rest == "" || m.rest[0] != c {
		return false
	}
	m.rest = m.rest[1:]
	if m.rest == "" {
		m.state, m.digits = map[byte]state{' ': label, 'e': ended, '>': ended}[c], ""
	}
	return true
}

// labelled reads a byte of the number of an atom or a procedure, or its end.
func (m *machine) labelled(c byte) bool {
	n, _ := new(big.Int).SetString("0"+m.digits, 10)
	if c == '>' && m.state == labels && n.Cmp(big.NewInt(m.least)) >= 0 {
		m.state = ended
		return true
	}
	m.digits += string([]byte{c})
	m.state = labels
	n, ok := new(big.Int).SetString(m.digits, 10)
	return ok && is(c, digits) && n.IsInt64()
}

// digit reads a byte of a number, or one behind it.
func (m *machine) digit(c byte) bool {
	switch {
	case is(c, digits):
		m.digits += string([]byte{c})
		m.state = map[state]state{sign: whole, whole: whole, point: places, places: places}[m.state]
		return true
	case c == '.' && m.state == whole:
		m.digits += "."
		m.state = point
		return true
	case m.state == sign || m.state == point:
		return false
	}
	m.endNumber()
	return m.behind(c)
}

// endNumber looks whether the number that has been read, if it is one, is too large.
func (m *machine) endNumber() {
	if m.state != whole && m.state != places {
		return
	}
	all, behind, isDecimal := strings.Cut(m.digits, ".")
	behind = strings.TrimRight(behind, "0")
	if isDecimal && behind == "" {
		behind = "0"
	}
	n, _ := new(big.Int).SetString(all+behind, 10)
	if len(behind) > api.MaxScale || n.BitLen() > 32*api.MaxLimbs {
		m.large = m.from
	}
}

// quoted reads a byte of a string, or one behind it.
func (m *machine) quoted(c byte) bool {
	switch {
	case m.state == quote && c != '"':
		return m.behind(c)
	case m.state == escape && !is(c, `\n`), m.state == inside && (c < 32 || c > 126):
		return false
	case m.state == inside && is(c, `"\`):
		m.state = map[byte]state{'"': quote, '\\': escape}[c]
		return true
	}
	m.state = inside
	m.bytes++
	if m.bytes > api.MaxStr {
		m.large = m.from
	}
	return true
}
