package setop

import "zermelo/api"

// fault is one of the numbers FtType and so on, by which an operation ends early.
type fault int

// attempt carries out work; a fault ends it, and there is no result then.
func attempt[T any](work func() T) (result T, number int) {
	defer func() {
		switch reason := recover().(type) {
		case nil:
		case fault:
			number = int(reason)
		default:
			// Only operands that are neither formed nor om lead here.
			number = api.FtType
		}
	}()
	return work(), 0
}

// demand ends an attempt with a fault, unless something holds.
func demand(holds bool, number int) {
	if !holds {
		panic(fault(number))
	}
}

// must returns what a lower layer makes of operands that were examined: it refuses these only because its result would be too large.
func must[T any](result T, e api.Errno) T {
	demand(e == api.OK, api.FtLimit)
	return result
}
