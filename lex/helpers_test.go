package lex_test

import (
	"fmt"
	"math/big"
	"math/rand"
	"regexp"
	"slices"
	"strconv"
	"strings"

	"zermelo/api"
	"zermelo/lex"
)

// wordList are the key words, and signList the signs, written a second time.
var (
	wordList = []string{
		"abs", "and", "arb", "assert", "case", "char", "const", "continue", "dec", "div", "do", "domain", "else", "elseif", "end", "endm", "exists", "exports",
		"fail", "fix", "for", "forall", "from", "fromb", "frome", "if", "impl", "in", "include", "incs", "inverse", "isom", "less", "lessf", "loop",
		"macro", "max", "min", "mod", "module", "newat", "not", "notexists", "notin", "npow", "of", "ok", "om", "or", "otherwise", "pow", "print", "proc", "program",
		"quit", "range", "rd", "read", "return", "rw", "stop", "str", "subset", "succeed", "then", "toset", "totuple", "true", "false", "type",
		"until", "uses", "var", "when", "while", "with", "wr",
	}
	signList = []string{
		":=", "**", "/=", "<=", ">=", "..", "->",
		"+", "-", "*", "/", "=", "<", ">", "#", "(", ")", "[", "]", "{", "}", ",", ";", ":", ".", "|", "?", "@",
	}
)

// The shapes of what a source consists of, and the digits of a number that count.
var (
	nameShape   = regexp.MustCompile(`^[A-Za-z][A-Za-z0-9_]*`)
	numberShape = regexp.MustCompile(`^[0-9]+(\.[0-9]+)?`)
	stringShape = regexp.MustCompile(`^"(?:""|[^"\n])*`) // without what ends it
	decimalText = regexp.MustCompile(`^0*([0-9]+\.[0-9]+?)0*$`)
)

// mistake is an error of a source.
type mistake struct {
	at   int
	rank int // which of several at one position comes first
	e    api.Errno
}

// model splits a source a second time: it follows shapes, and gathers all errors before it takes the first one.
type model struct {
	src      string
	l        []api.Token
	mistakes []mistake
}

// modelled returns what Scan must return.
func modelled(src string) ([]api.Token, int, api.Errno) {
	if len(src) > 20000 {
		return nil, 0, api.ErrLimit
	}
	m := model{src: src}
	for at := 0; at < len(src); {
		at = m.from(at)
	}
	if len(m.l) > 6000 {
		m.wrong(m.l[6000].At, api.ErrLimit)
	}
	if len(m.mistakes) == 0 {
		return m.l, 0, api.OK
	}
	slices.SortFunc(m.mistakes, func(a, b mistake) int { return 10*(a.at-b.at) + a.rank - b.rank })
	return nil, m.mistakes[0].at, m.mistakes[0].e
}

// wrong gathers an error.
func (m *model) wrong(at int, e api.Errno) {
	rank := slices.Index([]api.Errno{api.ErrByte, api.ErrQuote, api.ErrLong, api.ErrLimit}, e)
	m.mistakes = append(m.mistakes, mistake{at, rank, e})
}

// add gathers a token, and its errors.
func (m *model) add(kind int, text string, at, to int, long bool) int {
	line, col := 1+strings.Count(m.src[:at], "\n"), at-strings.LastIndex(m.src[:at], "\n")
	m.l = append(m.l, api.Token{Kind: kind, Text: text, At: at, To: to, Line: line, Col: col})
	if long {
		m.wrong(at, api.ErrLong)
	}
	m.bytes(at, to)
	return to
}

// bytes gathers the wrong bytes of a part.
func (m *model) bytes(at, to int) {
	for i := at; i < to; i++ {
		if c := m.src[i]; c != 10 && (c < 32 || c > 126) {
			m.wrong(i, api.ErrByte)
		}
	}
}

// from reads what stands at a position, and returns the one behind it.
func (m *model) from(at int) int {
	rest := m.src[at:]
	switch c := rest[0]; {
	case c == ' ' || c == '\n':
		return at + 1
	case c == '$':
		comment, _, _ := strings.Cut(rest, "\n")
		m.bytes(at, at+len(comment))
		return at + len(comment)
	case c == '"':
		found := stringShape.FindString(rest)
		end := at + len(found)
		if end == len(m.src) || m.src[end] != '"' {
			m.wrong(at, api.ErrQuote)
			return len(m.src)
		}
		text := strings.ReplaceAll(found[1:], `""`, `"`)
		return m.add(api.TkStr, text, at, end+1, len(text) > 1000)
	}
	if name := nameShape.FindString(rest); name != "" {
		kind, text := api.TkName, strings.ToLower(name)
		if slices.Contains(wordList, text) {
			kind = api.TkKey
		}
		return m.add(kind, text, at, at+len(name), len(name) > 24)
	}
	if number := numberShape.FindString(rest); number != "" {
		return m.number(number, at)
	}
	longest := ""
	for _, sign := range signList {
		if strings.HasPrefix(rest, sign) && len(sign) > len(longest) {
			longest = sign
		}
	}
	if longest == "" {
		m.wrong(at, api.ErrByte)
		return len(m.src)
	}
	return m.add(api.TkSign, longest, at, at+len(longest), false)
}

// number gathers a number.
func (m *model) number(number string, at int) int {
	ahead, behind, isDecimal := strings.Cut(number, ".")
	long := len(ahead)+len(behind) > 380
	if !isDecimal {
		n, _ := new(big.Int).SetString(number, 10)
		return m.add(api.TkInt, n.String(), at, at+len(number), long)
	}
	text := decimalText.FindStringSubmatch(number)[1]
	_, places, _ := strings.Cut(text, ".")
	return m.add(api.TkDec, text, at, at+len(number), long || len(places) > 20)
}

// words calls take with all strings of the letters of an alphabet up to a length.
func words(alphabet string, most int, take func(string)) {
	buffer := make([]byte, 0, most)
	var extend func()
	extend = func() {
		take(string(buffer))
		if len(buffer) == most {
			return
		}
		for i := range len(alphabet) {
			buffer = append(buffer, alphabet[i])
			extend()
			buffer = buffer[:len(buffer)-1]
		}
	}
	extend()
}

// one returns one of several strings.
func one(r *rand.Rand, l ...string) string { return l[r.Intn(len(l))] }

// piece returns a part of a source without errors.
func piece(r *rand.Rand) string {
	switch r.Intn(10) {
	case 0:
		return one(r, wordList...)
	case 1:
		return strings.ToUpper(one(r, wordList...))
	case 2:
		return one(r, "a", "B", "x_1", "Q__", "iff", "i", "n", "e5", "endmm", strings.Repeat("zY", 12))
	case 3:
		return one(r, "0", "7", "007", "123456789012345678901234567890", strconv.Itoa(r.Intn(1000)))
	case 4:
		return one(r, "0.0", "1.50", "00.050", "3.14", "12.00000000000000000001", "5.", "0.10000000000000000000000000")
	case 5:
		return one(r, `""`, `"a"`, `"a""b"`, `""""`, `"$ :="`, `" "" "`, `"Ab1.5"`)
	case 6:
		return one(r, "$\n", "$ a \"b\n", "$$ ~!'\n")
	case 7:
		return one(r, " ", "  ", "\n", "\n\n", " \n ")
	}
	return one(r, signList...)
}

// source returns a source of so many parts at most that has no errors.
func source(r *rand.Rand, most int) string {
	for {
		src := ""
		for range r.Intn(most + 1) {
			src += piece(r)
			if r.Intn(3) == 0 {
				src += " "
			}
		}
		if _, _, e := modelled(src); e == api.OK {
			return src
		}
	}
}

// token returns a token with a Kind and a Text alone that some source has.
func token(r *rand.Rand) api.Token {
	for {
		if l, _, _ := modelled(piece(r)); len(l) > 0 {
			return bare(l)[0]
		}
	}
}

// bare returns the tokens with their Kinds and Texts alone.
func bare(l []api.Token) []api.Token {
	var b []api.Token
	for _, t := range l {
		b = append(b, api.Token{Kind: t.Kind, Text: t.Text})
	}
	return b
}

// scanned returns the tokens of a source without errors.
func scanned(src string) []api.Token {
	l, at, e := lex.Scan(src)
	if e != api.OK {
		panic("error " + strconv.Itoa(int(e)) + " at " + strconv.Itoa(at) + " of " + short(src))
	}
	return l
}

// told writes tokens for messages: of each one its Kind, its Text, its bytes, its line and its column.
func told(l []api.Token) string {
	var s []string
	for _, t := range l {
		kind := map[int]string{api.TkName: "name", api.TkKey: "key", api.TkInt: "int", api.TkDec: "dec", api.TkStr: "str", api.TkSign: "sign"}[t.Kind]
		s = append(s, fmt.Sprintf("%s %s %d-%d %d:%d", kind, t.Text, t.At, t.To, t.Line, t.Col))
	}
	return strings.Join(s, ", ")
}

// short returns a text for messages, or where it begins.
func short(s string) string {
	if len(s) > 120 {
		s = s[:100] + ".. (" + strconv.Itoa(len(s)) + ")"
	}
	return strconv.Quote(s)
}
