// Package run holds what a run works on: values, regions, maps and calls. It
// knows nothing of instructions. Whatever must not be is a trap: a panic with
// an api.Trap, for the machine to recover.
package run

import "spool/api"

// sort is what a value is. Numbers are first: an empty value is the number 0.
type sort int

const (
	aNumber sort = iota
	aMap
	aPointer
)

// Value is what a register holds. Values are the same if they are equal.
type Value struct {
	sort   sort
	bits   uint64 // the number, or the pointer's offset
	region *region
	table  *Map
}

// Number is a value that is a number.
func Number(n uint64) Value { return Value{bits: n} }

func pointer(to *region, offset uint64) Value {
	return Value{sort: aPointer, bits: offset, region: to}
}

func (v Value) want(s sort) {
	if v.sort != s {
		panic(api.Tag)
	}
}

// Number is the number that the value must be.
func (v Value) Number() uint64 {
	v.want(aNumber)
	return v.bits
}

func (v Value) mapped() *Map {
	v.want(aMap)
	return v.table
}

// Offset is the offset of a pointer; false, if the value is none.
func (v Value) Offset() (uint64, bool) {
	return v.bits, v.sort == aPointer
}

// At is the pointer with another offset.
func (v Value) At(offset uint64) Value {
	v.bits = offset
	return v
}
