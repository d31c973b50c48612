package setop

import (
	"math"

	"zermelo/api"
	"zermelo/num"
	"zermelo/val"
)

// kinds are some of the Kinds, with a bit for each one.
type kinds uint

const (
	oms    kinds = 1 << api.VOm
	bools  kinds = 1 << api.VBool
	ints   kinds = 1 << api.VInt
	decs   kinds = 1 << api.VDec
	strs   kinds = 1 << api.VStr
	tups   kinds = 1 << api.VTup
	sets   kinds = 1 << api.VSet
	values kinds = 1<<(api.VSet+1) - 1 - oms // all but om
)

// have reports whether a Kind is among those.
func (k kinds) have(kind int) bool { return kind >= 0 && k>>kind&1 == 1 }

// operand is a value, and what an operation takes in its place.
type operand struct {
	value api.Val
	takes kinds
}

// examine ends a call at the first operand that is not taken.
func examine(operands ...operand) {
	for _, o := range operands {
		demand(o.value.Kind != api.VOm || o.takes.have(api.VOm), api.FtOm)
		demand(o.takes.have(o.value.Kind), api.FtType)
	}
}

// placed returns the operands of a list whose first places take some kinds each, and those behind them nothing.
func placed(l []api.Val, takes ...kinds) []operand {
	var operands []operand
	for i, v := range l {
		o := operand{value: v}
		if i < len(takes) {
			o.takes = takes[i]
		}
		operands = append(operands, o)
	}
	return operands
}

// free returns the operands of a list that may have any values, and any number of them.
func free(l []api.Val) []operand {
	var operands []operand
	for _, v := range l {
		operands = append(operands, operand{value: v, takes: values})
	}
	return operands
}

// demandMap ends a call, unless a set is a map.
func demandMap(a api.Val) { demand(val.IsMap(a), api.FtMap) }

// near returns an integer as an int, and the outermost one of its sign if it is none: no bound of an operand is as large.
func near(a api.Int) int {
	n, e := num.To(a)
	switch {
	case e == api.OK:
		return n
	case a.Neg:
		return math.MinInt
	}
	return math.MaxInt
}

// within returns an integer from least to most as an int, or ends a call.
func within(a api.Val, least, most int) int {
	n := near(a.Int)
	demand(n >= least && n <= most, api.FtRange)
	return n
}

// chooser returns which one of so many elements is chosen.
type chooser func(many int) int

// chooserOf returns the chooser of a number of an oracle, which may be negative.
func chooserOf(pick int) chooser {
	return func(many int) int { return (pick%many + many) % many }
}
