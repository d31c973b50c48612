package setop

import (
	"zermelo/api"
	"zermelo/num"
	"zermelo/val"
)

// What these functions return shares no memory with their arguments; a value that would be too large ends the call.

// truth returns a boolean.
func truth(holds bool) api.Val {
	v := api.Val{Kind: api.VBool}
	if holds {
		v.N = 1
	}
	return v
}

// integer returns an integer that num has made.
func integer(n api.Int, e api.Errno) api.Val {
	demand(e == api.OK && len(n.Abs) <= api.MaxLimbs, api.FtLimit)
	return api.Val{Kind: api.VInt, Int: n}
}

// small returns an int as an integer.
func small(n int) api.Val { return integer(num.Of(n), api.OK) }

// str returns the string of a text.
func str(s string) api.Val {
	demand(len(s) <= api.MaxStr, api.FtLimit)
	return api.Val{Kind: api.VStr, Str: s}
}

// tuple returns the tuple of values, without the om at its end.
func tuple(l ...api.Val) api.Val { return must(val.Tuple(l)) }

// set returns the set of those values that are not om.
func set(l ...api.Val) api.Val { return must(val.Set(l)) }
