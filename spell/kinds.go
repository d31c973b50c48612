package spell

import (
	"strconv"
	"strings"

	"zermelo/api"
	"zermelo/dec"
	"zermelo/guard"
	"zermelo/num"
)

// kind is how the values of a Kind are written, and read from bytes.
type kind struct {
	text func(v api.Val) string
	give func(v api.Val, yield func(byte) bool) bool // what stands behind the Kind; reports whether more is wanted
	read func(d *decoder) api.Val                    // reads this; the result has no Kind yet
}

// kinds returns how values are written, for each Kind.
func kinds() [api.VSet + 1]kind {
	return [...]kind{
		api.VOm:   {textOfOm, giveNothing, (*decoder).nothing},
		api.VBool: {textOfBool, giveByte, (*decoder).truth},
		api.VInt:  {textOfInt, giveInt, (*decoder).integer},
		api.VDec:  {textOfDec, giveDec, (*decoder).decimal},
		api.VStr:  {textOfStr, giveStr, (*decoder).str},
		api.VAtom: {textOfAtom, giveNumber, (*decoder).numbered},
		api.VProc: {textOfProc, giveNumber, (*decoder).numbered},
		api.VTup:  {textOfTup, giveList, (*decoder).elements},
		api.VSet:  {textOfSet, giveList, (*decoder).elements},
	}
}

// text returns the text of a value.
func text(v api.Val) string { return kinds()[v.Kind].text(v) }

// shown returns a string itself, and the text of other values.
func shown(v api.Val) string {
	if v.Kind == api.VStr {
		return v.Str
	}
	return text(v)
}

func textOfOm(api.Val) string { return "<om>" }

func textOfBool(v api.Val) string { return strconv.FormatBool(v.N == 1) }

func textOfInt(v api.Val) string { return guard.Must(num.Text(v.Int, 10)) }

func textOfDec(v api.Val) string { return guard.Must(dec.Text(v)) }

func textOfStr(v api.Val) string {
	// What comes in place of a line feed has a backslash that is not the string's: so backslashes come first.
	s := strings.ReplaceAll(v.Str, `\`, `\\`)
	s = strings.ReplaceAll(s, "\n", `\n`)
	s = strings.ReplaceAll(s, `"`, `""`)
	return `"` + s + `"`
}

func textOfAtom(v api.Val) string { return "<atom " + strconv.Itoa(v.N) + ">" }

func textOfProc(v api.Val) string { return "<proc " + strconv.Itoa(v.N) + ">" }

func textOfTup(v api.Val) string { return "[" + strings.Join(each(v.L, text), ", ") + "]" }

func textOfSet(v api.Val) string { return "{" + strings.Join(each(v.L, text), ", ") + "}" }

// each returns what is written of each value.
func each(l []api.Val, written func(api.Val) string) []string {
	var s []string
	for _, v := range l {
		s = append(s, written(v))
	}
	return s
}
