package spell_test

import (
	"bytes"
	"math/rand"
	"slices"
	"strings"
	"testing"

	"zermelo/api"
	"zermelo/spell"
	"zermelo/val"
)

// P4.7: there and back.
func TestBack(t *testing.T) {
	for _, v := range many(11) {
		text := must[string](t)(spell.Text(v))
		if got, at, e := spell.Parse(text); e != api.OK || at != 0 || !same(got, v) {
			t.Errorf("Parse of Text of %s is %s, %d, error %d", told(v), told(got), at, e)
		}
		b := must[[]byte](t)(spell.Encode(v))
		if got, e := spell.Decode(b); e != api.OK || !same(got, v) {
			t.Errorf("Decode of Encode of %s is %s, error %d", told(v), told(got), e)
		}
		if v.Kind != api.VStr {
			continue
		}
		quoted := must[string](t)(spell.Quote(v.Str))
		if got, e := spell.Unquote(quoted); e != api.OK || got != v.Str || quoted != text {
			t.Errorf("Unquote of Quote of %s, %s, is %s, error %d", told(v), short(quoted), short(got), e)
		}
	}
	l := many(12)
	if got, e := spell.DecodeAll(must[[]byte](t)(spell.EncodeAll(l))); e != api.OK || !sameAll(got, l) {
		t.Errorf("DecodeAll of EncodeAll of %d values: %d values, error %d", len(l), len(got), e)
	}
}

// P4.7: the text of what is read is read as the same value; what is read from bytes has these bytes.
func TestForth(t *testing.T) {
	r := rand.New(rand.NewSource(13))
	for _, v := range many(13) {
		got, _, e := spell.Parse(loosely(r, v))
		again, at, f := spell.Parse(must[string](t)(spell.Text(got)))
		if e != api.OK || f != api.OK || at != 0 || !same(again, got) {
			t.Errorf("%s is read again as %s, %d, errors %d, %d", told(got), told(again), at, e, f)
		}
	}
	read := 0
	for range 300000 {
		b := make([]byte, r.Intn(9))
		for i := range b {
			b[i] = []byte{0, 1, 2, 3, 4, 5, 6, 7, 8, 65, 127, 128, 255}[r.Intn(13)]
		}
		if v, e := spell.Decode(b); e == api.OK {
			read++
			if again, e := spell.Encode(v); e != api.OK || !bytes.Equal(again, b) || val.Check(v) != api.OK {
				t.Errorf("Encode of Decode(%v) is %v, error %d", b, again, e)
			}
		} else if e != api.ErrBytes || !same(v, om) {
			t.Errorf("Decode(%v) is %s, error %d", b, told(v), e)
		}
		if l, e := spell.DecodeAll(b); e == api.OK {
			read++
			if again, e := spell.EncodeAll(l); e != api.OK || !bytes.Equal(again, b) {
				t.Errorf("EncodeAll of DecodeAll(%v) is %v, error %d", b, again, e)
			}
		} else if e != api.ErrBytes || l != nil {
			t.Errorf("DecodeAll(%v) are %d values, error %d", b, len(l), e)
		}
	}
	if read < 1000 {
		t.Errorf("only %d of the byte strings have been read", read)
	}
}

// P4.8: texts tell values apart, and have no other bytes than those from 32 to 126.
func TestTexts(t *testing.T) {
	all := map[string]api.Val{}
	for _, v := range append(many(14), many(15)...) {
		s := must[string](t)(spell.Text(v))
		if i := strings.IndexFunc(s, func(c rune) bool { return c < 32 || c > 126 }); i >= 0 {
			t.Errorf("Text of %s has the byte %d", told(v), s[i])
		}
		if other, there := all[s]; there && !same(other, v) {
			t.Errorf("%s is the text of two values", short(s))
		}
		all[s] = v
	}
}

// P4.9: no binary form is the beginning of another one.
func TestPrefixes(t *testing.T) {
	for _, v := range many(16) {
		b := must[[]byte](t)(spell.Encode(v))
		for n := range b {
			if got, e := spell.Decode(b[:n]); e != api.ErrBytes || !same(got, om) {
				t.Errorf("%d of the %d bytes of %s are those of %s, error %d", n, len(b), told(v), told(got), e)
			}
		}
		for _, more := range [][]byte{{0}, {1}, {128}, b} {
			if got, e := spell.Decode(append(slices.Clone(b), more...)); e != api.ErrBytes || !same(got, om) {
				t.Errorf("the bytes of %s, and %v, are those of %s, error %d", told(v), more, told(got), e)
			}
		}
	}
}

// P4.9: the width of a tuple or set.
func TestWidths(t *testing.T) {
	width := func(v api.Val) int { return must[int](t)(spell.Width(v)) }
	for _, v := range append(many(17), tuple(integers(127)...), tuple(integers(128)...), set(integers(api.MaxNodes-1)...)) {
		if n := len(must[[]byte](t)(spell.Encode(v))); n != width(v) {
			t.Errorf("%s has %d bytes, but the width %d", told(v), n, width(v))
		}
		if v.Kind < api.VTup {
			continue
		}
		want := 2
		if len(v.L) >= 128 {
			want++
		}
		for _, x := range v.L {
			want += width(x)
		}
		if width(v) != want {
			t.Errorf("the width of %s is %d, want %d", told(v), width(v), want)
		}
	}
}

// P4.10: parts of texts.
func TestParts(t *testing.T) {
	text := func(v api.Val) string { return must[string](t)(spell.Text(v)) }
	r := rand.New(rand.NewSource(18))
	values := slices.DeleteFunc(many(18), func(v api.Val) bool { return val.Deep(v) >= api.MaxDeep })
	for range 1000 {
		var l []api.Val
		for range 1 + r.Intn(5) {
			l = append(l, values[r.Intn(len(values))])
		}
		l = append(l, integer(r.Intn(3)))
		var parts []string
		for _, x := range l {
			parts = append(parts, text(x))
		}
		if got := text(tuple(l...)); got != "["+strings.Join(parts, ", ")+"]" {
			t.Errorf("the text of a tuple of %d elements is %s", len(l), short(got))
		}
		at, other := r.Intn(len(l)), values[r.Intn(len(values))]
		l[at], parts[at] = other, text(other)
		made, _ := val.Tuple(l)
		changed := "[" + strings.Join(parts, ", ") + "]"
		if got, _, e := spell.Parse(changed); e != api.OK || !same(got, made) {
			t.Errorf("Parse(%s) is %s, error %d", short(changed), told(got), e)
		}
		if last := made.L[len(made.L)-1]; at < len(l)-1 || !same(other, om) && same(last, other) {
			if got := text(made); got != changed {
				t.Errorf("the text of the changed tuple is %s, want %s", short(got), short(changed))
			}
		}
	}
}

// P4.11: lines.
func TestLinesBack(t *testing.T) {
	lines := func(l []api.Val) string { return must[string](t)(spell.Lines(l)) }
	all := many(19)
	for _, half := range []int{0, 1, 7, len(all) / 2, len(all)} {
		first, second := lines(all[:half]), lines(all[half:])
		got, line, e := spell.ReadLines(first + second)
		if e != api.OK || line != 0 || !sameAll(got, all) {
			t.Errorf("ReadLines of Lines of %d and %d values: %d values, line %d, error %d", half, len(all)-half, len(got), line, e)
		}
		for _, part := range []struct {
			s    string
			want []api.Val
		}{{first, all[:half]}, {second, all[half:]}} {
			if got, line, e := spell.ReadLines(part.s); e != api.OK || line != 0 || !sameAll(got, part.want) {
				t.Errorf("ReadLines of Lines of %d values: %d values, line %d, error %d", len(part.want), len(got), line, e)
			}
		}
	}
}

// P4.12: bytes that are damaged.
func TestDamage(t *testing.T) {
	for _, v := range many(20) {
		b := coded(v)
		// All that can become of a byte where there are few; of long forms, some at some places.
		step, skip := 1+len(b)/100, 1
		if len(b) > 30 {
			skip = 21
		}
		for at := 0; at < len(b); at += step {
			for wrong := 1; wrong < 256; wrong += skip {
				b[at] ^= byte(wrong)
				if got, e := spell.Decode(b); e == api.OK && same(got, v) || e != api.OK && e != api.ErrBytes {
					t.Errorf("%s with the byte %d at %d: %s, error %d", told(v), b[at], at, told(got), e)
				}
				b[at] ^= byte(wrong)
			}
		}
		if got, e := spell.Decode(b[:len(b)-1]); e != api.ErrBytes || !same(got, om) {
			t.Errorf("%s without the last byte: %s, error %d", told(v), told(got), e)
		}
	}
	l := many(21)[:40]
	list := codedAll(l)
	for at := range list {
		for _, wrong := range []byte{1, 2, 64, 128, 255} {
			list[at] ^= wrong
			if got, e := spell.DecodeAll(list); e == api.OK && sameAll(got, l) {
				t.Errorf("a list with the byte %d at %d is the same", list[at], at)
			}
			list[at] ^= wrong
		}
	}
}

// overwritten changes all memory of a value.
func overwritten(v api.Val) {
	for i := range v.Int.Abs {
		v.Int.Abs[i] = ^v.Int.Abs[i]
	}
	for i := range v.L {
		overwritten(v.L[i])
		v.L[i] = atom(99)
	}
}

// Results share no memory with arguments, or with each other, and arguments stay as they are.
func TestMemory(t *testing.T) {
	for _, v := range many(22) {
		b, text := coded(v), written(v)
		before := slices.Clone(b)
		decoded, _ := spell.Decode(b)
		again, _ := spell.Decode(b)
		list, _ := spell.DecodeAll(slices.Concat([]byte{2}, b, b))
		parsed, _, _ := spell.Parse("[" + text + "," + text + ",1]")
		lines, _, _ := spell.ReadLines(text + "\n" + text + "\n")
		first, _ := spell.Encode(decoded)
		second, _ := spell.Encode(decoded)
		if !bytes.Equal(b, before) {
			t.Errorf("the bytes of %s are not what they were", told(v))
		}
		for i := range b {
			b[i], first[i] = 255, 255
		}
		if !same(decoded, v) || !bytes.Equal(second, before) {
			t.Errorf("%s is not what it was", told(v))
		}
		pairs := [][2]api.Val{{decoded, again}, {list[0], list[1]}, {lines[0], lines[1]}}
		if val.Deep(v) < api.MaxDeep {
			pairs = append(pairs, [2]api.Val{parsed.L[0], parsed.L[1]})
		}
		for i, pair := range pairs {
			overwritten(pair[0])
			if !same(pair[1], v) {
				t.Errorf("%d: %s is not what it was", i, told(v))
			}
		}
	}
}
