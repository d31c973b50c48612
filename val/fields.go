package val

import (
	"zermelo/api"
	"zermelo/guard"
)

// isOm reports whether a value is none.
func isOm(v api.Val) bool { return v.Kind == api.VOm }

// demandForm ends a check, unless the fields of a node are those of a formed value, or of om. Its elements are not looked at.
func demandForm(v *api.Val) {
	guard.Demand(hasOnlyItsFields(v) && hasForm(v), api.ErrForm)
	guard.Demand(len(v.Int.Abs) <= api.MaxLimbs && len(v.Str) <= api.MaxStr, api.ErrLimit)
}

// hasOnlyItsFields reports whether there is such a Kind, and all fields are zero that it does not have.
func hasOnlyItsFields(v *api.Val) bool {
	others := *v
	switch v.Kind {
	case api.VOm:
	case api.VBool, api.VAtom, api.VProc:
		others.N = 0
	case api.VInt:
		others.Int = api.Int{}
	case api.VDec:
		others.N, others.Int = 0, api.Int{}
	case api.VStr:
		others.Str = ""
	case api.VTup, api.VSet:
		others.L = nil
	default:
		return false
	}
	return others.N == 0 && !others.Int.Neg && len(others.Int.Abs) == 0 && others.Str == "" && len(others.L) == 0
}

// hasForm reports whether the fields that a Kind has are as they must be, but for their lengths.
func hasForm(v *api.Val) bool {
	switch v.Kind {
	case api.VBool:
		return v.N == 0 || v.N == 1
	case api.VAtom:
		return v.N >= 1
	case api.VProc:
		return v.N >= 0
	case api.VInt:
		return isTrimmed(v.Int)
	case api.VDec:
		return isTrimmed(v.Int) && v.N >= 1 && v.N <= api.MaxScale && (v.N == 1 || !endsIn0(v.Int))
	case api.VStr:
		return isPlain(v.Str)
	case api.VTup:
		return len(v.L) == 0 || !isOm(v.L[len(v.L)-1])
	}
	return true
}

// isTrimmed reports whether an integer has no limb 0 on top, and is not a negative 0. (Those of num have a limit.)
func isTrimmed(n api.Int) bool {
	top := len(n.Abs) - 1
	if top < 0 {
		return !n.Neg
	}
	return n.Abs[top] != 0
}

// endsIn0 reports whether an integer, of any length, is a multiple of 10.
func endsIn0(n api.Int) bool {
	rest := uint64(0)
	for i := len(n.Abs) - 1; i >= 0; i-- {
		rest = (rest<<32 | uint64(n.Abs[i])) % 10
	}
	return rest == 0
}

// isPlain reports whether a string has no bytes but those that strings of the language have.
func isPlain(s string) bool {
	for i := range len(s) {
		if (s[i] < 32 || s[i] > 126) && s[i] != '\n' {
			return false
		}
	}
	return true
}

// demandRising ends a check, if a node is an element of a set that is om, or not greater than the one ahead of it.
func demandRising(p place) {
	if p.of == nil || p.of.Kind != api.VSet {
		return
	}
	guard.Demand(!isOm(*p.node) && (p.at == 0 || Compare(p.of.L[p.at-1], *p.node) < 0), api.ErrForm)
}
