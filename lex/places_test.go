package lex_test

import (
	"math"
	"math/rand"
	"strings"
	"testing"

	"zermelo/api"
	"zermelo/lex"
)

// holdPlaces holds Where and Offset of a source against its lines.
func holdPlaces(t *testing.T, src string) {
	t.Helper()
	at := 0
	lines := strings.Split(src, "\n")
	for i, line := range lines {
		for col := 1; col <= len(line)+1; col++ {
			if l, c, e := lex.Where(src, at); l != i+1 || c != col || e != api.OK {
				t.Errorf("Where of %s, %d: %d, %d, error %d, want %d, %d", short(src), at, l, c, e, i+1, col)
			}
			if got, e := lex.Offset(src, i+1, col); got != at || e != api.OK {
				t.Errorf("Offset of %s, %d, %d: %d, error %d, want %d", short(src), i+1, col, got, e, at)
			}
			at++
		}
		for _, col := range []int{0, -1, len(line) + 2, len(line) + 3, math.MinInt, math.MaxInt} {
			if got, e := lex.Offset(src, i+1, col); got != 0 || e != api.ErrNone {
				t.Errorf("Offset of %s, %d, %d: %d, error %d", short(src), i+1, col, got, e)
			}
		}
	}
	for _, at := range []int{-1, len(src) + 1, math.MinInt, math.MaxInt} {
		if l, c, e := lex.Where(src, at); l != 0 || c != 0 || e != api.ErrArg {
			t.Errorf("Where of %s, %d: %d, %d, error %d", short(src), at, l, c, e)
		}
	}
	for _, line := range []int{0, -1, len(lines) + 1, len(lines) + 2, math.MinInt, math.MaxInt} {
		for _, col := range []int{1, 0, 2, -1, math.MaxInt} {
			if got, e := lex.Offset(src, line, col); got != 0 || e != api.ErrNone {
				t.Errorf("Offset of %s, %d, %d: %d, error %d", short(src), line, col, got, e)
			}
		}
	}
}

// P6.5: the examples, and all positions of sources with any bytes.
func TestWhereAndOffset(t *testing.T) {
	if line, col, e := lex.Where("a\nbc", 3); line != 2 || col != 2 || e != api.OK {
		t.Errorf("Where: %d, %d, error %d", line, col, e)
	}
	if at, e := lex.Offset("a\nbc", 2, 2); at != 3 || e != api.OK {
		t.Errorf("Offset: %d, error %d", at, e)
	}
	words("a\n\t", 5, func(src string) { holdPlaces(t, src) })
	for _, src := range []string{"\x00\xff\n\x80\r\n\"", "ä\nö", "$ a\n\"b\n\"", "\v\f\u2028\n"} {
		holdPlaces(t, src)
	}
	r := rand.New(rand.NewSource(62))
	for range 50 {
		b := make([]byte, r.Intn(300))
		for i := range b {
			b[i] = byte(r.Intn(256))
			if r.Intn(8) == 0 {
				b[i] = '\n'
			}
		}
		holdPlaces(t, string(b))
	}
}

// P6.5: a source that is too large comes first.
func TestPlacesOfLargeSources(t *testing.T) {
	for _, fill := range []string{"\n", "x", "\xff"} {
		most, beyond := strings.Repeat(fill, 20000), strings.Repeat(fill, 20001)
		line, col := 1, 20001
		if fill == "\n" {
			line, col = 20001, 1
		}
		if l, c, e := lex.Where(most, 20000); l != line || c != col || e != api.OK {
			t.Errorf("Where: %d, %d, error %d", l, c, e)
		}
		if at, e := lex.Offset(most, line, col); at != 20000 || e != api.OK {
			t.Errorf("Offset: %d, error %d", at, e)
		}
		for _, at := range []int{0, 5, -1, 20001, 20002} {
			if l, c, e := lex.Where(beyond, at); l != 0 || c != 0 || e != api.ErrLimit {
				t.Errorf("Where of too much, %d: %d, %d, error %d", at, l, c, e)
			}
			if at, e := lex.Offset(beyond, 1, at); at != 0 || e != api.ErrLimit {
				t.Errorf("Offset of too much, %d: %d, error %d", at, at, e)
			}
		}
	}
}
