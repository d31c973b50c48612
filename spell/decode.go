package spell

import (
	"zermelo/api"
	"zermelo/guard"
	"zermelo/val"
)

// decoder reads binary forms.
type decoder struct {
	source
	deep int // how many tuples and sets have not ended yet
}

// decoded returns what is read from bytes, all of them.
func decoded[T any](b []byte, read func(d *decoder) T) (result T, e api.Errno) {
	e = guard.Attempt(func() {
		guard.Demand(len(b) <= api.MaxBytes, api.ErrLimit)
		d := &decoder{source: source{all: string(b), wrong: api.ErrBytes}}
		found := read(d)
		d.end()
		result = found
	})
	return result, e
}

// formed reads the binary form of a formed value, or om.
func (d *decoder) formed() api.Val {
	v := d.value()
	d.demand(val.Check(v) == api.OK)
	return v
}

// value reads what has the shape of a binary form; whether the value is formed is left to val.
func (d *decoder) value() api.Val {
	table := kinds()
	which := int(d.one())
	d.demand(which < len(table))
	v := table[which].read(d)
	v.Kind = which
	return v
}

func (d *decoder) nothing() api.Val { return api.Val{} }

func (d *decoder) truth() api.Val { return api.Val{N: int(d.one())} }

func (d *decoder) integer() api.Val {
	sign := d.one()
	d.demand(sign <= 1)
	magnitude := d.bytes()
	d.demand(magnitude == "" || magnitude[len(magnitude)-1] != 0)
	return api.Val{Int: api.Int{Neg: sign == 1, Abs: limbsOf(magnitude)}}
}

func (d *decoder) decimal() api.Val {
	places := int(d.one())
	v := d.integer()
	v.N = places
	return v
}

func (d *decoder) str() api.Val { return api.Val{Str: d.bytes()} }

func (d *decoder) numbered() api.Val { return api.Val{N: d.number()} }

func (d *decoder) elements() api.Val {
	// Bytes that go deeper are not followed: a value can't be so deep.
	d.demand(d.deep < api.MaxDeep)
	d.deep++
	l := list(below(d.number()), d.value)
	d.deep--
	return api.Val{L: l}
}

// one reads a byte.
func (d *decoder) one() byte { return d.take(1)[0] }

// bytes reads the number of bytes, and these.
func (d *decoder) bytes() string { return d.take(d.number()) }

// number reads a number in groups of seven bits.
func (d *decoder) number() int {
	n := 0
	for shift := 0; ; shift += 7 {
		d.demand(shift < 63) // the bits that a number from 0 on can have
		group := d.one()
		n |= int(group%128) << shift
		if group < 128 {
			d.demand(group > 0 || shift == 0)
			return n
		}
	}
}

// limbsOf returns the limbs of a magnitude with such bytes.
func limbsOf(magnitude string) []uint32 {
	var limbs []uint32
	for i := range len(magnitude) {
		if i%4 == 0 {
			limbs = append(limbs, 0)
		}
		limbs[i/4] |= uint32(magnitude[i]) << (8 * (i % 4))
	}
	return limbs
}
