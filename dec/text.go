package dec

import (
	"iter"
	"strings"

	"zermelo/api"
	"zermelo/guard"
	"zermelo/num"
)

// text returns the text of a decimal.
func text(a api.Val) string {
	sign := ""
	if a.Int.Neg {
		sign = "-"
	}
	s := guard.Must(num.Text(magnitude(a.Int), 10))
	s = strings.Repeat("0", max(0, a.N+1-len(s))) + s
	point := len(s) - a.N
	return sign + s[:point] + "." + s[point:]
}

// parse returns the decimal with a text.
func parse(s string) api.Val {
	rest, neg := strings.CutPrefix(s, "-")
	whole, places := parts(rest)
	places = strings.TrimRight(places, "0")
	guard.Demand(len(places) <= api.MaxScale, api.ErrLimit)
	n := guard.Must(num.Parse(whole+places, 10))
	if neg {
		n = negative(n)
	}
	return made(n, len(places))
}

// parts returns the digits ahead of the point of a text, and those behind it; there are some of both.
func parts(s string) (whole, places string) {
	point := countDigits(s)
	guard.Demand(point > 0 && point < len(s) && s[point] == '.', api.ErrForm)
	whole, places = s[:point], s[point+1:]
	guard.Demand(len(places) > 0 && countDigits(places) == len(places), api.ErrForm)
	return whole, places
}

// countDigits returns how many digits a text begins with.
func countDigits(s string) int {
	count := 0
	for range digits(s) {
		count++
	}
	return count
}

// digits gives the digits that a text begins with.
func digits(s string) iter.Seq[byte] {
	return func(yield func(byte) bool) {
		for i := range len(s) {
			if s[i] < '0' || s[i] > '9' || !yield(s[i]) {
				return
			}
		}
	}
}
