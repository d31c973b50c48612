package spell_test

import (
	"encoding/binary"
	"math"
	"math/big"
	"math/rand"
	"slices"
	"strconv"
	"strings"
	"testing"

	"zermelo/api"
	"zermelo/num"
	"zermelo/val"
)

var om = api.Val{}

// twoTo returns 2 to the power of n, and d added.
func twoTo(n uint, d int64) *big.Int {
	p := new(big.Int).Lsh(big.NewInt(1), n)
	return p.Add(p, big.NewInt(d))
}

// most is the greatest Int of a value.
func most() *big.Int { return twoTo(32*api.MaxLimbs, -1) }

// numeral returns a number of a Kind whose Int has such digits. Nothing else is looked at.
func numeral(kind, places int, digits string) api.Val {
	n, _ := num.Parse(digits, 10)
	return api.Val{Kind: kind, N: places, Int: n}
}

func integer(n int) api.Val { return numeral(api.VInt, 0, strconv.Itoa(n)) }

func large(n *big.Int) api.Val { return numeral(api.VInt, 0, n.String()) }

func decimal(n int, places int) api.Val { return numeral(api.VDec, places, strconv.Itoa(n)) }

func boolean(n int) api.Val { return api.Val{Kind: api.VBool, N: n} }

func str(s string) api.Val { return api.Val{Kind: api.VStr, Str: s} }

func atom(n int) api.Val { return api.Val{Kind: api.VAtom, N: n} }

func proc(n int) api.Val { return api.Val{Kind: api.VProc, N: n} }

func tuple(l ...api.Val) api.Val { return api.Val{Kind: api.VTup, L: l} }

func set(l ...api.Val) api.Val { return api.Val{Kind: api.VSet, L: l} }

// nested is a value with so many tuples, or sets, around it.
func nested(v api.Val, times int, around func(l ...api.Val) api.Val) api.Val {
	for range times {
		v = around(v)
	}
	return v
}

// integers are so many integers from 0 on.
func integers(many int) []api.Val {
	var l []api.Val
	for n := range many {
		l = append(l, integer(n))
	}
	return l
}

// allBytes are the bytes that a string of the language can have.
func allBytes() string {
	s := "\n"
	for b := byte(32); b <= 126; b++ {
		s += string([]byte{b})
	}
	return s
}

// fixed are values of each Kind, and om, with what is special about their forms.
func fixed() []api.Val {
	l := []api.Val{
		om, boolean(0), boolean(1), large(most()), large(new(big.Int).Neg(most())),
		decimal(0, 1), decimal(10, 1), decimal(-15, 1), decimal(5, 2), decimal(-5, 2), decimal(1, api.MaxScale), decimal(-123456789, 4),
		numeral(api.VDec, 1, most().String()), numeral(api.VDec, api.MaxScale, "-"+most().String()),
		str(""), str("a"), str("a\"b"), str(`"`), str(`""`), str(`\`), str(`\n`), str("\n"), str("\\\n"), str(`[1, 2]`), str("<om>"), str(" "), str(allBytes()), str(strings.Repeat("\n", api.MaxStr)),
		atom(1), atom(127), atom(128), atom(math.MaxInt), proc(0), proc(128), proc(math.MaxInt),
		tuple(), tuple(tuple()), tuple(om, integer(1)), tuple(om, om, str("")), tuple(integer(1), om, str("a\"b")), tuple(integers(130)...),
		set(), set(set()), set(tuple(), set()), set(boolean(1)), set(boolean(1), str("ab")), set(integer(1), decimal(10, 1), str("1"), atom(1), proc(1), tuple(integer(1))), set(integers(200)...),
		nested(tuple(), api.MaxDeep-1, tuple), nested(set(), api.MaxDeep-1, set), nested(integer(7), api.MaxDeep-1, tuple),
	}
	for _, n := range []int{0, 1, -1, 9, 10, 127, 128, 255, 256, 300, -300, 1 << 24, 1<<32 - 1, 1 << 32, math.MaxInt, math.MinInt} {
		l = append(l, integer(n))
	}
	for _, bits := range []uint{1015, 1016, 1017, 1023, 1024, 1025} { // where the number of bytes gets another byte
		l = append(l, large(twoTo(bits, 0)), large(new(big.Int).Neg(twoTo(bits, -1))))
	}
	return l
}

// random returns a value that is at most so deep.
func random(r *rand.Rand, deep int) api.Val {
	small := []api.Val{
		boolean(r.Intn(2)), integer(r.Intn(9) - 4), large(new(big.Int).Rand(r, twoTo(uint(r.Intn(150)), 0))), decimal(r.Intn(40)-20, 1), decimal(10*r.Intn(400)+1+r.Intn(9), 1+r.Intn(api.MaxScale)),
		str([]string{"", "a", "\"", "\\n", "a\nb", ", ", "]"}[r.Intn(7)]), atom(1 + r.Intn(300)), proc(r.Intn(300)),
	}
	if deep == 1 || r.Intn(3) == 0 {
		return small[r.Intn(len(small))]
	}
	var l []api.Val
	for range r.Intn(5) {
		l = append(l, random(r, deep-1))
	}
	if r.Intn(4) == 0 {
		l = append(l, om, random(r, deep-1))
	}
	made := val.Tuple
	if r.Intn(2) == 0 {
		made = val.Set
	}
	v, _ := made(l)
	return v
}

// many are the fixed values, and some by chance.
func many(seed int64) []api.Val {
	r := rand.New(rand.NewSource(seed))
	l := fixed()
	for range 300 {
		l = append(l, random(r, 1+r.Intn(5)))
	}
	return l
}

// same reports whether two values are equal, field by field.
func same(a, b api.Val) bool {
	return a.Kind == b.Kind && a.N == b.N && a.Int.Neg == b.Int.Neg && slices.Equal(a.Int.Abs, b.Int.Abs) && a.Str == b.Str && sameAll(a.L, b.L)
}

// sameAll is same for lists.
func sameAll(a, b []api.Val) bool { return slices.EqualFunc(a, b, same) }

// number returns an integer with limbs as one of the library.
func number(a api.Int) *big.Int {
	n := new(big.Int)
	for _, limb := range slices.Backward(a.Abs) {
		n.Lsh(n, 32)
		n.Or(n, new(big.Int).SetUint64(uint64(limb)))
	}
	if a.Neg {
		n.Neg(n)
	}
	return n
}

// written is the text of a value, told a second time.
func written(v api.Val) string {
	switch v.Kind {
	case api.VOm:
		return "<om>"
	case api.VBool:
		return []string{"false", "true"}[v.N]
	case api.VInt:
		return number(v.Int).String()
	case api.VDec:
		unit := new(big.Int).Exp(big.NewInt(10), big.NewInt(int64(v.N)), nil)
		return new(big.Rat).SetFrac(number(v.Int), unit).FloatString(v.N)
	case api.VStr:
		return `"` + strings.NewReplacer(`"`, `""`, `\`, `\\`, "\n", `\n`).Replace(v.Str) + `"`
	case api.VAtom, api.VProc:
		return []string{"<atom ", "<proc "}[v.Kind-api.VAtom] + strconv.Itoa(v.N) + ">"
	}
	s := "[{"[v.Kind-api.VTup : v.Kind-api.VTup+1]
	for i, x := range v.L {
		if i > 0 {
			s += ", "
		}
		s += written(x)
	}
	return s + "]}"[v.Kind-api.VTup:v.Kind-api.VTup+1]
}

// coded is the binary form of a value, told a second time.
func coded(v api.Val) []byte {
	b := []byte{byte(v.Kind)}
	length := func(n int) { b = binary.AppendUvarint(b, uint64(n)) }
	magnitude := func() {
		n := number(v.Int)
		b = append(b, byte((1-n.Sign())/2*(n.Sign()*n.Sign()))) // 1 below 0
		bytes := n.Bytes()
		slices.Reverse(bytes)
		length(len(bytes))
		b = append(b, bytes...)
	}
	switch v.Kind {
	case api.VBool:
		b = append(b, byte(v.N))
	case api.VInt:
		magnitude()
	case api.VDec:
		b = append(b, byte(v.N))
		magnitude()
	case api.VStr:
		length(len(v.Str))
		b = append(b, v.Str...)
	case api.VAtom, api.VProc:
		length(v.N)
	case api.VTup, api.VSet:
		length(len(v.L))
		for _, x := range v.L {
			b = append(b, coded(x)...)
		}
	}
	return b
}

// codedAll is the binary form of a list, told a second time.
func codedAll(l []api.Val) []byte {
	b := binary.AppendUvarint(nil, uint64(len(l)))
	for _, v := range l {
		b = append(b, coded(v)...)
	}
	return b
}

// short returns a text for messages, or where it begins.
func short(s string) string {
	if len(s) > 80 {
		s = s[:70] + ".. (" + strconv.Itoa(len(s)) + ")"
	}
	return strconv.Quote(s)
}

// told writes a value for messages.
func told(v api.Val) string { return short(written(v)) }

// must returns a result, and ends the test if there is an error instead.
func must[T any](t *testing.T) func(T, api.Errno) T {
	return func(result T, e api.Errno) T {
		t.Helper()
		if e != api.OK {
			t.Fatalf("error %d", e)
		}
		return result
	}
}
