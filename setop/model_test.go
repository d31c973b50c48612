package setop_test

import (
	"math/big"
	"math/rand"
	"slices"
	"strconv"
	"strings"
	"testing"

	"zermelo/api"
	"zermelo/setop"
	"zermelo/spell"
)

// A second telling of the operations: with the numbers of math/big, and with lists of elements that are gone through each time.

// answer is a result, or a fault.
type answer struct {
	value api.Val
	fault int
}

func gives(a api.Val) answer { return answer{value: a} }

func faulty(number int) answer { return answer{fault: number} }

// sized is a value, or FtLimit if it is too large.
func sized(a api.Val) answer {
	all := nodes(a)
	fits := len(all) <= api.MaxNodes && deep(a) <= api.MaxDeep
	for _, x := range all {
		fits = fits && len(x.Int.Abs) <= api.MaxLimbs && len(x.Str) <= api.MaxStr
	}
	if !fits {
		return faulty(api.FtLimit)
	}
	return gives(a)
}

// letters are those of the Kinds.
const letters = "oBIDSAPTX"

// unTakes are the Kinds that each operation takes.
var unTakes = map[int]string{
	api.UnNeg: "ID", api.UnNot: "B", api.UnLen: "STX", api.UnArb: "X", api.UnPow: "X", api.UnDom: "X", api.UnRan: "X", api.UnAbs: "IDS", api.UnChr: "I",
	api.UnStr: "BIDSAPTX", api.UnFix: "D", api.UnDec: "I", api.UnTyp: "BIDSAPTX", api.UnOm: "oBIDSAPTX", api.UnInv: "X", api.UnTup: "X", api.UnElt: "TS",
}

// binTakes are the pairs of Kinds that each operation takes; * is all but om, and ? is all.
var binTakes = map[int]string{
	api.BiAdd: "II DD SS TT XX", api.BiSub: "II DD XX", api.BiMul: "II IS IT SI TI DD XX", api.BiDiv: "DD", api.BiQuo: "II", api.BiMod: "II XX", api.BiPow: "II DI",
	api.BiEq: "??", api.BiNe: "??", api.BiLt: "II DD SS", api.BiLe: "II DD SS", api.BiGt: "II DD SS", api.BiGe: "II DD SS", api.BiIn: "*S *T *X", api.BiNotin: "*S *T *X",
	api.BiSubs: "XX", api.BiIncs: "XX", api.BiWith: "T* X*", api.BiLess: "X*", api.BiLessf: "X*", api.BiNpow: "XI", api.BiMax: "II DD SS", api.BiMin: "II DD SS", api.BiAnd: "BB", api.BiOr: "BB",
}

// takes reports whether a letter stands for a Kind.
func takes(letter byte, kind int) bool {
	return letter == '?' || letter == '*' && kind != api.VOm || letter == letters[kind]
}

// notTaken is the fault of an operand that is not taken.
func notTaken(a api.Val) answer {
	if a.Kind == api.VOm {
		return faulty(api.FtOm)
	}
	return faulty(api.FtType)
}

// examined are operands, each with the letters of the Kinds that are taken; the first fault, or none.
func examined(operands []api.Val, taken ...string) answer {
	for i, a := range operands {
		if i >= len(taken) || !strings.Contains(taken[i], letters[a.Kind:a.Kind+1]) {
			return notTaken(a)
		}
	}
	return answer{}
}

// anything are the letters of so many operands that may be anything but om.
func anything(many int) []string { return slices.Repeat([]string{letters[1:]}, many) }

func isMap(a api.Val) bool {
	for _, x := range a.L {
		if x.Kind != api.VTup || len(x.L) != 2 || x.L[0].Kind == api.VOm || x.L[1].Kind == api.VOm {
			return false
		}
	}
	return a.Kind == api.VSet
}

// image are all that a map has for x.
func image(f, x api.Val) []api.Val {
	var l []api.Val
	for _, pair := range f.L {
		if same(pair.L[0], x) {
			l = append(l, pair.L[1])
		}
	}
	return l
}

// selected are those values that a function says yes to.
func selected(l []api.Val, yes func(x api.Val) bool) []api.Val {
	var some []api.Val
	for _, x := range l {
		if yes(x) {
			some = append(some, x)
		}
	}
	return some
}

func contains(l []api.Val, x api.Val) bool {
	return slices.ContainsFunc(l, func(y api.Val) bool { return same(x, y) })
}

// parts are the elements of a sequence, those of strings as strings.
func parts(a api.Val) []api.Val {
	l := slices.Clone(a.L)
	for _, b := range []byte(a.Str) {
		l = append(l, str(string([]byte{b})))
	}
	return l
}

// sequence is the sequence of a Kind with elements.
func sequence(kind int, l []api.Val) api.Val {
	if kind == api.VTup {
		return tuple(l...)
	}
	s := ""
	for _, x := range l {
		s += x.Str
	}
	return str(s)
}

// rounded is the decimal that a number is rounded to.
func rounded(r *big.Rat) answer {
	scaled := new(big.Rat).Mul(r, new(big.Rat).SetInt(ten(api.MaxScale)))
	n := new(big.Int).Div(scaled.Num(), scaled.Denom())
	over := new(big.Rat).Sub(scaled, new(big.Rat).SetInt(n)).Cmp(big.NewRat(1, 2))
	if over > 0 || over == 0 && n.Bit(0) == 1 {
		n.Add(n, big.NewInt(1))
	}
	places := api.MaxScale
	for places > 1 && new(big.Int).Rem(n, big.NewInt(10)).Sign() == 0 {
		n.Quo(n, big.NewInt(10))
		places--
	}
	return sized(decimal(n, places))
}

// indexOf is the index that a number chooses among so many.
func indexOf(pick, many int) int {
	return int(new(big.Int).Mod(big.NewInt(int64(pick)), big.NewInt(int64(many))).Int64())
}

func modelUn(op int, a api.Val, pick int) answer {
	if unTakes[op] == "" {
		return faulty(api.FtType)
	}
	if e := examined([]api.Val{a}, unTakes[op]); e.fault != 0 {
		return e
	}
	switch op {
	case api.UnDom, api.UnRan, api.UnInv:
		return modelOfMap(op, a)
	case api.UnPow:
		return modelSubsets(a, func(int) bool { return true })
	case api.UnNeg, api.UnAbs, api.UnFix, api.UnDec, api.UnChr:
		return modelOfNumber(op, a)
	case api.UnNot:
		return gives(boolean(a.N == 0))
	case api.UnLen:
		return gives(integer(len(parts(a))))
	case api.UnArb:
		if len(a.L) == 0 {
			return gives(om)
		}
		return gives(a.L[indexOf(pick, len(a.L))])
	case api.UnStr:
		s, _ := spell.Show(a)
		return sized(str(s))
	case api.UnTyp:
		return gives(str(strings.Fields("om boolean integer decimal string atom procedure tuple set")[a.Kind]))
	case api.UnOm:
		return gives(boolean(a.Kind == api.VOm))
	case api.UnTup:
		return gives(tuple(a.L...))
	}
	return gives(set(parts(a)...)) // UnElt
}

func modelOfMap(op int, a api.Val) answer {
	if !isMap(a) {
		return faulty(api.FtMap)
	}
	var l []api.Val
	for _, pair := range a.L {
		switch op {
		case api.UnDom:
			l = append(l, pair.L[0])
		case api.UnRan:
			l = append(l, pair.L[1])
		case api.UnInv:
			l = append(l, tuple(pair.L[1], pair.L[0]))
		}
	}
	return gives(set(l...))
}

func modelOfNumber(op int, a api.Val) answer {
	n := number(a)
	switch op {
	case api.UnDec:
		return rounded(new(big.Rat).SetInt(n))
	case api.UnFix:
		return gives(large(n.Quo(n, ten(a.N))))
	case api.UnChr:
		if !n.IsInt64() || n.Int64() != 10 && (n.Int64() < 32 || n.Int64() > 126) {
			return faulty(api.FtRange)
		}
		return gives(str(string([]byte{byte(n.Int64())})))
	}
	if a.Kind == api.VStr {
		if len(a.Str) != 1 {
			return faulty(api.FtRange)
		}
		return gives(integer(int(a.Str[0])))
	}
	if op == api.UnNeg || n.Sign() < 0 {
		n.Neg(n)
	}
	a.Int = whole(n)
	return gives(a)
}

// modelSubsets are the subsets with a number of elements to which a function says yes: of up to 12 elements, by the bits of a number.
func modelSubsets(a api.Val, yes func(many int) bool) answer {
	if len(a.L) > 12 {
		return answer{fault: -1}
	}
	var l []api.Val
	for bits := range 1 << len(a.L) {
		var some []api.Val
		for i, x := range a.L {
			if bits>>i&1 == 1 {
				some = append(some, x)
			}
		}
		if yes(len(some)) {
			l = append(l, set(some...))
		}
	}
	return sized(set(l...))
}

func modelBin(op int, a, b api.Val) answer {
	if binTakes[op] == "" {
		return faulty(api.FtType)
	}
	first, second := false, false
	for _, pair := range strings.Fields(binTakes[op]) {
		first = first || takes(pair[0], a.Kind)
		second = second || takes(pair[0], a.Kind) && takes(pair[1], b.Kind)
	}
	switch {
	case !first:
		return notTaken(a)
	case !second:
		return notTaken(b)
	}
	switch op {
	case api.BiAdd, api.BiSub, api.BiMul, api.BiMod, api.BiQuo, api.BiDiv, api.BiPow:
		switch {
		case a.Kind == api.VDec:
			return modelOfDecs(op, a, b)
		case a.Kind == api.VInt && b.Kind == api.VInt:
			return modelOfInts(op, number(a), number(b))
		case a.Kind == api.VSet:
			return modelOfSets(op, a, b)
		}
		return modelOfSequences(op, a, b)
	case api.BiWith, api.BiLess, api.BiLessf, api.BiNpow:
		return modelWith(op, a, b)
	}
	return modelTruth(op, a, b)
}

func modelOfInts(op int, a, b *big.Int) answer {
	switch {
	case op == api.BiAdd:
		return sized(large(a.Add(a, b)))
	case op == api.BiSub:
		return sized(large(a.Sub(a, b)))
	case op == api.BiMul:
		return sized(large(a.Mul(a, b)))
	case op == api.BiPow && b.Sign() < 0:
		return faulty(api.FtRange)
	case op == api.BiPow && (b.Cmp(big.NewInt(9600)) > 0 || a.BitLen() > 1 && int64(a.BitLen()-1)*b.Int64() > 2000):
		return faulty(api.FtLimit)
	case op == api.BiPow:
		return sized(large(a.Exp(a, b, nil)))
	case b.Sign() == 0:
		return faulty(api.FtZero)
	}
	// The quotient of the library is rounded so that the rest is not negative.
	q, r := new(big.Int).QuoRem(a, b, new(big.Int))
	if r.Sign() != 0 && r.Sign() != b.Sign() {
		q.Sub(q, big.NewInt(1))
		r.Add(r, b)
	}
	if op == api.BiQuo {
		return sized(large(q))
	}
	return sized(large(r))
}

func modelOfDecs(op int, a, b api.Val) answer {
	x, y := ratio(a), ratio(b)
	switch op {
	case api.BiAdd:
		return rounded(x.Add(x, y))
	case api.BiSub:
		return rounded(x.Sub(x, y))
	case api.BiMul:
		return rounded(x.Mul(x, y))
	case api.BiDiv:
		if y.Sign() == 0 {
			return faulty(api.FtZero)
		}
		return rounded(x.Quo(x, y))
	}
	n := number(b)
	size := new(big.Int).Abs(n)
	switch {
	case size.Cmp(big.NewInt(9600)) > 0:
		return faulty(api.FtLimit)
	case x.Sign() == 0 && n.Sign() < 0:
		return faulty(api.FtZero)
	case int64(a.N)*size.Int64() > 2800:
		return faulty(api.FtLimit)
	}
	power := new(big.Int).Exp(number(a), size, nil)
	if power.BitLen() > 32*api.MaxBig {
		return faulty(api.FtLimit)
	}
	r := new(big.Rat).SetFrac(power, ten(a.N*int(size.Int64())))
	if n.Sign() < 0 {
		r.Inv(r)
	}
	return rounded(r)
}

func modelOfSets(op int, a, b api.Val) answer {
	inA := func(x api.Val) bool { return contains(a.L, x) }
	inB := func(x api.Val) bool { return contains(b.L, x) }
	both := selected(a.L, inB)
	either := slices.Concat(a.L, b.L)
	switch op {
	case api.BiAdd:
		return sized(set(either...))
	case api.BiSub:
		return gives(set(selected(a.L, func(x api.Val) bool { return !inB(x) })...))
	case api.BiMul:
		return gives(set(both...))
	}
	return sized(set(selected(either, func(x api.Val) bool { return inA(x) != inB(x) })...))
}

func modelOfSequences(op int, a, b api.Val) answer {
	if op == api.BiAdd {
		return sized(sequence(a.Kind, slices.Concat(parts(a), parts(b))))
	}
	if a.Kind == api.VInt {
		a, b = b, a
	}
	n := number(b)
	switch {
	case n.Sign() < 0:
		return faulty(api.FtRange)
	case len(parts(a)) == 0:
		return gives(a)
	case n.Cmp(big.NewInt(api.MaxNodes)) > 0:
		return faulty(api.FtLimit)
	}
	var l []api.Val
	for range int(n.Int64()) {
		if l = append(l, parts(a)...); len(l) > 2*api.MaxNodes {
			return faulty(api.FtLimit)
		}
	}
	return sized(sequence(a.Kind, l))
}

func modelWith(op int, a, b api.Val) answer {
	switch {
	case op == api.BiNpow && number(b).Sign() < 0:
		return faulty(api.FtRange)
	case op == api.BiNpow:
		return modelSubsets(a, func(many int) bool { return number(b).Cmp(big.NewInt(int64(many))) == 0 })
	case op == api.BiWith && a.Kind == api.VTup:
		return sized(tuple(append(slices.Clone(a.L), b)...))
	case op == api.BiWith:
		return sized(set(append(slices.Clone(a.L), b)...))
	case op == api.BiLess:
		return gives(set(selected(a.L, func(x api.Val) bool { return !same(x, b) })...))
	case !isMap(a):
		return faulty(api.FtMap)
	}
	return gives(set(selected(a.L, func(x api.Val) bool { return !same(x.L[0], b) })...))
}

func modelTruth(op int, a, b api.Val) answer {
	switch op {
	case api.BiEq:
		return gives(boolean(same(a, b)))
	case api.BiNe:
		return gives(boolean(!same(a, b)))
	case api.BiLt:
		return gives(boolean(order(a, b) < 0))
	case api.BiLe:
		return gives(boolean(order(a, b) <= 0))
	case api.BiGt:
		return gives(boolean(order(a, b) > 0))
	case api.BiGe:
		return gives(boolean(order(a, b) >= 0))
	case api.BiIn:
		return gives(boolean(contains(parts(b), a)))
	case api.BiNotin:
		return gives(boolean(!contains(parts(b), a)))
	case api.BiSubs:
		return gives(boolean(len(selected(a.L, func(x api.Val) bool { return !contains(b.L, x) })) == 0))
	case api.BiIncs:
		return gives(boolean(len(selected(b.L, func(x api.Val) bool { return !contains(a.L, x) })) == 0))
	case api.BiAnd:
		return gives(boolean(a.N+b.N == 2))
	case api.BiOr:
		return gives(boolean(a.N+b.N > 0))
	}
	if order(a, b) < 0 == (op == api.BiMax) {
		return gives(b)
	}
	return gives(a)
}

// keyOf is the value of a list.
func keyOf(l []api.Val) api.Val {
	if len(l) == 1 {
		return l[0]
	}
	return tuple(l...)
}

func modelSel(a api.Val, l []api.Val, asSet bool) answer {
	operands := append([]api.Val{a}, l...)
	if len(l) == 0 {
		return faulty(api.FtType)
	}
	if a.Kind == api.VSet || asSet {
		if e := examined(operands, append([]string{"X"}, anything(len(l))...)...); e.fault != 0 {
			return e
		}
		if !isMap(a) {
			return faulty(api.FtMap)
		}
		switch found := image(a, keyOf(l)); {
		case asSet:
			return gives(set(found...))
		case len(found) == 1:
			return gives(found[0])
		}
		return gives(om)
	}
	if e := examined(operands, "ST", "I"); e.fault != 0 {
		return e
	}
	i, all := number(l[0]), parts(a)
	switch {
	case i.Sign() <= 0:
		return faulty(api.FtRange)
	case i.Cmp(big.NewInt(int64(len(all)))) > 0:
		return gives(om)
	}
	return gives(all[i.Int64()-1])
}

// ends are the numbers of the operands of a slice, from 1 on, if they are in their ranges.
func ends(a api.Val, l []api.Val) (from, to int, ok bool) {
	n := len(parts(a))
	i, j := number(l[0]), big.NewInt(int64(n))
	if len(l) > 1 {
		j = number(l[1])
	}
	inside := func(x *big.Int, least, most int) bool {
		return x.Cmp(big.NewInt(int64(least))) >= 0 && x.Cmp(big.NewInt(int64(most))) <= 0
	}
	if !inside(i, 1, n+1) || !inside(j, int(i.Int64())-1, n) {
		return 0, 0, false
	}
	return int(i.Int64()), int(j.Int64()), true
}

func modelSlice(a api.Val, l []api.Val) answer {
	if len(l) == 0 {
		return faulty(api.FtType)
	}
	if e := examined(append([]api.Val{a}, l...), "ST", "I", "I"); e.fault != 0 {
		return e
	}
	i, j, ok := ends(a, l)
	if !ok {
		return faulty(api.FtRange)
	}
	return gives(sequence(a.Kind, parts(a)[i-1:j]))
}

func modelPutSlice(a api.Val, l []api.Val, b api.Val) answer {
	if len(l) == 0 {
		return faulty(api.FtType)
	}
	if e := examined(append([]api.Val{a, b}, l...), "ST", letters[a.Kind:a.Kind+1], "I", "I"); e.fault != 0 {
		return e
	}
	i, j, ok := ends(a, l)
	if !ok {
		return faulty(api.FtRange)
	}
	return sized(sequence(a.Kind, slices.Concat(parts(a)[:i-1], parts(b), parts(a)[j:])))
}

func modelPutImg(a api.Val, l []api.Val, b api.Val) answer {
	if len(l) == 0 {
		return faulty(api.FtType)
	}
	if e := examined(append([]api.Val{a, b}, l...), append([]string{"X", "X"}, anything(len(l))...)...); e.fault != 0 {
		return e
	}
	return modelImages(a, keyOf(l), b.L)
}

// modelImages is a map that has other values for x.
func modelImages(a, x api.Val, ys []api.Val) answer {
	if !isMap(a) {
		return faulty(api.FtMap)
	}
	l := selected(a.L, func(pair api.Val) bool { return !same(pair.L[0], x) })
	for _, y := range ys {
		l = append(l, tuple(x, y))
	}
	return sized(set(l...))
}

func modelPut(a api.Val, l []api.Val, b api.Val) answer {
	switch {
	case len(l) == 0:
		return faulty(api.FtType)
	case a.Kind == api.VOm && len(l) == 1 && l[0].Kind == api.VInt:
		a = tuple()
	case a.Kind == api.VOm:
		a = set()
	}
	operands := append([]api.Val{a, b}, l...)
	if a.Kind == api.VSet {
		if e := examined(operands, append([]string{"X", letters}, anything(len(l))...)...); e.fault != 0 {
			return e
		}
		return modelImages(a, keyOf(l), selected([]api.Val{b}, func(x api.Val) bool { return x.Kind != api.VOm }))
	}
	if e := examined(operands[:1], "ST"); e.fault != 0 {
		return e
	}
	most := api.MaxNodes
	if a.Kind == api.VStr {
		if most = len(a.Str); b.Kind != api.VStr || len(b.Str) != 1 {
			return faulty(api.FtType)
		}
	}
	if e := examined(operands, "ST", letters, "I"); e.fault != 0 {
		return e
	}
	i := number(l[0])
	if i.Sign() <= 0 || i.Cmp(big.NewInt(int64(most))) > 0 {
		return faulty(api.FtRange)
	}
	all := parts(a)
	for int64(len(all)) < i.Int64() {
		all = append(all, om)
	}
	all[i.Int64()-1] = b
	return sized(sequence(a.Kind, all))
}

func modelRange(kind int, l []api.Val) answer {
	if kind != api.VTup && kind != api.VSet || len(l) < 2 {
		return faulty(api.FtType)
	}
	if e := examined(l, "I", "I", "I"); e.fault != 0 {
		return e
	}
	a, b, d := number(l[0]), number(l[len(l)-1]), big.NewInt(1)
	if len(l) == 3 {
		d.Sub(number(l[1]), a)
	}
	if d.Sign() == 0 {
		return faulty(api.FtRange)
	}
	var numbers []api.Val
	for a.Cmp(b) != d.Sign() {
		if numbers = append(numbers, large(a)); len(numbers) >= api.MaxNodes {
			return faulty(api.FtLimit)
		}
		a.Add(a, d)
	}
	if kind == api.VSet {
		return gives(set(numbers...))
	}
	return gives(tuple(numbers...))
}

// modelFrom is what is taken, and what is left.
func modelFrom(way int, a api.Val, pick int) (answer, api.Val) {
	takes := map[int]string{api.FrArb: "X", api.FrFirst: "ST", api.FrLast: "ST"}
	if takes[way] == "" {
		return faulty(api.FtType), om
	}
	if e := examined([]api.Val{a}, takes[way]); e.fault != 0 {
		return e, om
	}
	all := parts(a)
	if len(all) == 0 {
		return gives(om), a
	}
	at := map[int]int{api.FrArb: indexOf(pick, len(all)), api.FrLast: len(all) - 1}[way]
	others := slices.Concat(all[:at], all[at+1:])
	if a.Kind == api.VSet {
		return gives(all[at]), set(others...)
	}
	return gives(all[at]), sequence(a.Kind, others)
}

// modelBegin is what is left of an iterator that begins.
func modelBegin(kind int, a api.Val) ([]api.Val, int) {
	takes := map[int]string{api.ItElem: "STX", api.ItMap: "STX", api.ItImage: "X"}
	if takes[kind] == "" {
		return nil, api.FtType
	}
	if e := examined([]api.Val{a}, takes[kind]); e.fault != 0 {
		return nil, e.fault
	}
	if a.Kind == api.VSet && kind != api.ItElem && !isMap(a) {
		return nil, api.FtMap
	}
	var left []api.Val
	for i, x := range parts(a) {
		switch {
		case x.Kind == api.VOm:
		case kind == api.ItElem:
			left = append(left, x)
		case a.Kind != api.VSet:
			left = append(left, tuple(integer(i+1), x))
		default:
			images := image(a, x.L[0])
			if kind == api.ItImage {
				left = append(left, tuple(x.L[0], set(images...)))
			} else if len(images) == 1 {
				left = append(left, x)
			}
		}
	}
	if a.Kind == api.VSet {
		left = set(left...).L
	}
	for _, x := range left {
		if s := sized(x); s.fault != 0 {
			return nil, s.fault
		}
	}
	return left, 0
}

// agree compares a result with what the second telling gives.
func agree(t *testing.T, call string, got api.Val, fault int, want answer, operands ...api.Val) {
	t.Helper()
	if want.fault >= 0 && (fault != want.fault || !same(got, want.value)) {
		t.Errorf("%s of %s is %s, fault %s; want %s, fault %s", call, toldAll(operands), told(got), faults[fault], told(want.value), faults[want.fault])
	}
}

// P5.1
func TestUnAgain(t *testing.T) {
	for i, a := range append(samples(1, 700), om) {
		for op := -1; op <= api.UnElt+1; op++ {
			pick := i*7 - 1000
			got, fault := setop.Un(op, a, pick)
			agree(t, "Un "+strconv.Itoa(op), got, fault, modelUn(op, a, pick), a)
		}
	}
}

// P5.2, with the examination of all pairs of Kinds
func TestBinAgain(t *testing.T) {
	bin := func(a, b api.Val) {
		for op := -1; op <= api.BiOr+1; op++ {
			got, fault := setop.Bin(op, a, b)
			agree(t, "Bin "+strconv.Itoa(op), got, fault, modelBin(op, a, b), a, b)
		}
	}
	all := append(edges(), om)
	for _, a := range all {
		for _, b := range all {
			// What is large is computed with small values alone.
			if len(nodes(a)) < 100 || len(nodes(b)) < 100 {
				bin(a, b)
			}
		}
	}
	r := rand.New(rand.NewSource(2))
	byKind := map[int][]api.Val{}
	for _, a := range samples(3, 1500) {
		if len(nodes(a)) < 100 {
			byKind[a.Kind] = append(byKind[a.Kind], a)
		}
	}
	for range 2500 {
		// Operands of one Kind are taken more often than others.
		kind := 1 + r.Intn(api.VSet)
		a, b := byKind[kind][r.Intn(len(byKind[kind]))], byKind[kind][r.Intn(len(byKind[kind]))]
		bin(a, b)
		other := byKind[1+r.Intn(api.VSet)]
		bin(a, other[r.Intn(len(other))])
		if kind == api.VSet || kind == api.VTup {
			if len(b.L) > 0 && b.L[0].Kind != api.VOm {
				bin(a, b.L[0])
				bin(b.L[0], a)
			}
			bin(a, integer(r.Intn(5)-1))
		}
	}
}

// P5.3 to P5.8
func TestPartsAgain(t *testing.T) {
	r := rand.New(rand.NewSource(4))
	all := append(samples(5, 1500), om, om, om)
	operand := func(a api.Val) api.Val {
		switch {
		case r.Intn(12) == 0:
			return all[r.Intn(len(all))]
		case r.Intn(3) > 0 && isMap(a) && len(a.L) > 0:
			return a.L[r.Intn(len(a.L))].L[0]
		}
		return integer(r.Intn(len(parts(a))+3) - 1)
	}
	for range 12000 {
		a, b := all[r.Intn(len(all))], all[r.Intn(len(all))]
		if r.Intn(2) == 0 {
			a = []api.Val{random(r, 3), randomMap(r, 3), om}[r.Intn(3)]
		}
		if r.Intn(3) == 0 {
			for b = random(r, 3); b.Kind != a.Kind && a.Kind >= api.VTup; b = random(r, 3) {
			}
		}
		var l []api.Val
		for range []int{0, 1, 1, 1, 1, 2, 2, 2, 3}[r.Intn(9)] {
			l = append(l, operand(a))
		}
		if len(l) == 2 && isMap(a) && r.Intn(2) == 0 {
			a = set(append(slices.Clone(a.L), tuple(tuple(l...), integer(1)))...)
			if !isMap(a) {
				continue
			}
		}
		partsAgree(t, a, b, l)
	}
}

// partsAgree compares all functions of lists with the second telling.
func partsAgree(t *testing.T, a, b api.Val, l []api.Val) {
	t.Helper()
	operands := append([]api.Val{a, b}, l...)
	agreed := func(call string, want answer) func(api.Val, int) {
		return func(got api.Val, fault int) {
			t.Helper()
			agree(t, call, got, fault, want, operands...)
		}
	}
	agreed("Sel", modelSel(a, l, false))(setop.Sel(a, l))
	agreed("Img", modelSel(a, l, true))(setop.Img(a, l))
	agreed("Slice", modelSlice(a, l))(setop.Slice(a, l))
	agreed("Put", modelPut(a, l, b))(setop.Put(a, l, b))
	agreed("PutImg", modelPutImg(a, l, b))(setop.PutImg(a, l, b))
	agreed("PutSlice", modelPutSlice(a, l, b))(setop.PutSlice(a, l, b))
	if len(l) > 0 && l[0].Kind == api.VInt && b.Kind != api.VOm {
		for kind := api.VStr; kind <= api.VSet+1; kind++ {
			agreed("Range "+strconv.Itoa(kind), modelRange(kind, l))(setop.Range(kind, l))
		}
	}
	agreed("Tup", sized(tuple(operands...)))(setop.Tup(operands))
	agreed("Set", sized(set(operands...)))(setop.Set(operands))
}

// P5.4
func TestRangeAgain(t *testing.T) {
	r := rand.New(rand.NewSource(6))
	bounds := []*big.Int{most(), minus(most()), twoTo(63, 0), twoTo(32, 0), big.NewInt(0), big.NewInt(0)}
	for range 3000 {
		near := bounds[r.Intn(len(bounds))]
		var l []api.Val
		for range 2 + r.Intn(2) {
			n := big.NewInt(int64(r.Intn(60) - 30))
			if r.Intn(20) == 0 {
				n.Mul(n, big.NewInt(150))
			}
			if r.Intn(30) > 0 {
				n.Add(n, near)
			}
			if n.BitLen() > 32*api.MaxLimbs {
				n = near
			}
			l = append(l, large(n))
		}
		for _, kind := range []int{api.VTup, api.VSet} {
			got, fault := setop.Range(kind, l)
			agree(t, "Range", got, fault, modelRange(kind, l), l...)
		}
	}
}

// P5.9 and P5.10
func TestTakingAgain(t *testing.T) {
	for i, a := range append(samples(7, 1500), om) {
		pick := i*11 - 5000
		for way := -1; way <= api.FrLast+1; way++ {
			x, rest, fault := setop.From(way, a, pick)
			want, left := modelFrom(way, a, pick)
			agree(t, "From "+strconv.Itoa(way), x, fault, want, a)
			agree(t, "From (rest) "+strconv.Itoa(way), rest, fault, answer{left, want.fault}, a)
		}
		for kind := -1; kind <= api.ItImage+1; kind++ {
			it, fault := setop.Begin(kind, a)
			left, due := modelBegin(kind, a)
			begun := fault == 0 && it.Kind == kind && it.Any == (a.Kind == api.VSet) || fault != 0 && it.Kind == 0 && !it.Any
			if fault != due || !begun || !slices.EqualFunc(it.Left, left, same) {
				t.Errorf("Begin %d of %s is %v, %s, fault %s; want %s, fault %s", kind, told(a), it.Any, toldAll(it.Left), faults[fault], toldAll(left), faults[due])
				continue
			}
			nextAgrees(t, it, pick)
		}
	}
}

// nextAgrees takes up to three elements out of an iterator.
func nextAgrees(t *testing.T, it api.Iter, pick int) {
	t.Helper()
	for range 3 {
		x, y, rest, ok := setop.Next(it, pick)
		if ok != (len(it.Left) > 0) {
			t.Errorf("Next of %s: %v", toldAll(it.Left), ok)
		}
		if !ok {
			return
		}
		at := 0
		if it.Any {
			at = indexOf(pick, len(it.Left))
		}
		want := []api.Val{it.Left[at], om}
		if it.Kind != api.ItElem {
			want = it.Left[at].L
		}
		others := slices.Concat(it.Left[:at], it.Left[at+1:])
		if !same(x, want[0]) || !same(y, want[1]) || rest.Kind != it.Kind || rest.Any != it.Any || !slices.EqualFunc(rest.Left, others, same) {
			t.Errorf("Next of %s by %d is %s, %s; %s are left", toldAll(it.Left), pick, told(x), told(y), toldAll(rest.Left))
		}
		it = rest
	}
}
