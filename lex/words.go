package lex

import "strings"

// keyWords are the key words.
const keyWords = `and arb assert char case const continue dec div do domain else elseif end exists exports
	fail fix for forall frome fromb from if impl in include incs inverse isom less lessf loop
	macro endm max min mod module newat not notexists notin npow of ok om or otherwise pow print proc program
	quit range rd read return rw stop str subset succeed then toset totuple true false type
	until uses var when while with wr abs`

// signs are the signs. Those of two bytes come first, so that the first one that fits is the longest.
const signs = ":= ** /= <= >= .. -> + - * / = < > # ( ) [ ] { } , ; : . | ? @"

// keys returns the key words, to look them up.
func keys() map[string]bool {
	words := strings.Fields(keyWords)
	found := make(map[string]bool, len(words))
	for _, word := range words {
		found[word] = true
	}
	return found
}

// kind is what a byte can be.
type kind int

const (
	alien  kind = iota // no source has it
	feed               // the end of a line
	blank              // a blank
	dollar             // the beginning of a comment
	quote              // the beginning or the end of a string
	letter             // a part of a name
	digit              // a part of a name or a number
	joint              // a part of a name, but not its beginning
	mark               // what a sign may begin with
)

// kinds returns the kinds of all bytes.
func kinds() [256]kind {
	var table [256]kind
	for b := 32; b <= 126; b++ {
		table[b] = mark
	}
	for n := range 26 {
		table['a'+n], table['A'+n] = letter, letter
	}
	for n := range 10 {
		table['0'+n] = digit
	}
	table['\n'], table[' '], table['$'], table['"'], table['_'] = feed, blank, dollar, quote, joint
	return table
}
