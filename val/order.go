package val

import (
	"cmp"

	"zermelo/api"
	"zermelo/dec"
	"zermelo/num"
)

// value is a value that is compared with others of its Kind.
type value api.Val

// orders returns, for each Kind, how two of its values are compared.
func orders() [api.VSet + 1]func(a, b value) int {
	return [...]func(a, b value) int{
		api.VOm:   value.byNumber, // 0
		api.VBool: value.byNumber,
		api.VInt:  value.bySize,
		api.VDec:  value.byDecimal,
		api.VStr:  value.byBytes,
		api.VAtom: value.byNumber,
		api.VProc: value.byNumber,
		api.VTup:  value.byElements,
		api.VSet:  value.byElements,
	}
}

func (a value) byNumber(b value) int { return cmp.Compare(a.N, b.N) }

func (a value) bySize(b value) int { return num.Compare(a.Int, b.Int) }

func (a value) byBytes(b value) int { return cmp.Compare(a.Str, b.Str) }

func (a value) byDecimal(b value) int {
	// Most decimals of a set have as many places: then nothing has to be computed.
	if a.N == b.N {
		return a.bySize(b)
	}
	order, _ := dec.Compare(api.Val(a), api.Val(b))
	return order
}

func (a value) byElements(b value) int {
	if len(a.L) != len(b.L) {
		return cmp.Compare(len(a.L), len(b.L))
	}
	for i, x := range a.L {
		if order := Compare(x, b.L[i]); order != 0 {
			return order
		}
	}
	return 0
}
