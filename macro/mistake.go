package macro

import "zermelo/api"

// place is where something is wrong: the name of a text, and an index or a position in it. Where no place is told, it is zero.
type place struct {
	text string
	at   int
}

// mistake is an error and its place.
type mistake struct {
	place
	e api.Errno
}

// attempt carries out work; a mistake that panics within ends it, and is returned.
func attempt(work func()) (wrong mistake) {
	defer func() {
		switch reason := recover().(type) {
		case nil:
		case mistake:
			wrong = reason
		default:
			wrong = mistake{e: api.ErrArg}
		}
	}()
	work()
	return mistake{}
}

// demand ends an attempt with a mistake at a place, unless something holds.
func demand(holds bool, e api.Errno, there place) {
	if !holds {
		panic(mistake{there, e})
	}
}

// demandFew demands that there are not too many tokens.
func demandFew(many int) { demand(many <= api.MaxTokens, api.ErrLimit, place{}) }

// demandChecked demands that macros are right, and does not tell which one is not.
func demandChecked(defs ...api.Macro) {
	_, e := Check(defs)
	demand(e == api.OK, e, place{})
}
