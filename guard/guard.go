// Package guard ends calls of the layers early: what must hold and does not panics, and the attempt around it returns the error instead.
package guard

import "zermelo/api"

// Attempt carries out work; what panics within ends it, and becomes the error.
func Attempt(work func()) (e api.Errno) {
	defer func() {
		switch reason := recover().(type) {
		case nil:
		case api.Errno:
			e = reason
		default:
			e = api.ErrArg
		}
	}()
	work()
	return api.OK
}

// Demand ends an attempt with an error, unless something holds.
func Demand(holds bool, e api.Errno) {
	if !holds {
		panic(e)
	}
}

// Must returns a result, or ends an attempt with the error that has come instead of it.
func Must[T any](result T, e api.Errno) T {
	Demand(e == api.OK, e)
	return result
}
