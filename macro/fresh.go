package macro

import (
	"strconv"
	"strings"

	"zermelo/api"
	"zermelo/lex"
)

// freshName returns the fresh name of a name in the expansion with a number.
func freshName(name string, number int) string { return name + "#" + strconv.Itoa(number) }

// fresh returns the name and the number of a fresh name, if it is one.
func fresh(s string) (string, int, bool) {
	name, digits, _ := strings.Cut(s, "#")
	n, err := strconv.Atoi(digits)
	if err != nil || n < 1 || n > api.MaxTokens || s != freshName(name, n) || !lex.IsName(name) {
		return "", 0, false
	}
	return name, n, true
}

// isFresh reports whether a token is a fresh name.
func isFresh(t api.Token) bool {
	_, _, is := fresh(t.Text)
	return is && t.Kind == api.TkName
}

// cleaner gives fresh names other names.
type cleaner struct {
	taken map[string]bool   // the names that cannot be given
	given map[string]string // the names of fresh names
	last  int               // the number of the last name that was given
}

// newCleaner returns a cleaner of a list.
func newCleaner(l []api.Token) *cleaner {
	c := &cleaner{taken: map[string]bool{}, given: map[string]string{}}
	for _, t := range l {
		if t.Kind == api.TkName || t.Kind == api.TkKey {
			c.taken[t.Text] = true
		}
	}
	return c
}

// clean returns the list without fresh names.
func (c *cleaner) clean(l []api.Token) []api.Token {
	var all []api.Token
	for _, t := range l {
		if isFresh(t) {
			t.Text = c.name(t.Text)
		}
		all = append(all, t)
	}
	return all
}

// name returns the name that a fresh name gets.
func (c *cleaner) name(s string) string {
	if name, is := c.given[s]; is {
		return name
	}
	next := func() string {
		c.last++
		return "f" + strconv.Itoa(c.last)
	}
	name := next()
	for c.taken[name] {
		name = next()
	}
	c.given[s] = name
	return name
}
