// Package object turns programs into the bytes of objects and images, and
// back.
package object

import (
	"slices"
	"strings"

	"spool/ops"
)

const (
	magic      = "SPOL"
	objectKind = 1
	imageKind  = 2
)

// Program is what an object or an image holds. Maps and functions rise by
// their names.
type Program struct {
	Maps  []Map
	Funcs []Func
}

// Map is a map that a program uses.
type Map struct {
	Name                string
	Key, Value, Entries byte
}

// Func is a function. Its instructions name the functions and maps to which
// they refer; in an image the numbers of these stand in their place.
type Func struct {
	Name string
	Code []ops.Instr
}

// Slots tells how many slots the function has.
func (f Func) Slots() int {
	n := 0
	for _, i := range f.Code {
		n += i.Op.Slots
	}
	return n
}

// Sort puts the maps and the functions in their order.
func (p Program) Sort() {
	slices.SortFunc(p.Maps, func(a, b Map) int { return strings.Compare(a.Name, b.Name) })
	slices.SortFunc(p.Funcs, func(a, b Func) int { return strings.Compare(a.Name, b.Name) })
}

// EncodeObject makes the bytes of an object.
func EncodeObject(p Program) string {
	return string(appendReferences(encode(objectKind, p), p.Funcs))
}

// EncodeImage makes the bytes of an image.
func EncodeImage(p Program) string {
	return string(encode(imageKind, p))
}

func encode(kind byte, p Program) []byte {
	out := append([]byte(magic), kind, byte(len(p.Maps)))
	for _, m := range p.Maps {
		out = append(appendName(out, m.Name), m.Key, m.Value, m.Entries)
	}
	out = append(out, byte(len(p.Funcs)))
	for _, f := range p.Funcs {
		out = appendTwo(appendName(out, f.Name), f.Slots())
	}
	for _, f := range p.Funcs {
		for _, i := range f.Code {
			out = i.AppendSlots(out)
		}
	}
	return out
}

func appendReferences(out []byte, funcs []Func) []byte {
	var list []byte
	count := 0
	for n, f := range funcs {
		slot := 0
		for _, i := range f.Code {
			if i.Refers() != ops.Nothing {
				list = appendTwo(append(list, byte(n)), slot)
				list = appendName(list, i.Name)
				count++
			}
			slot += i.Op.Slots
		}
	}
	return append(appendTwo(out, count), list...)
}

func appendName(out []byte, name string) []byte {
	return append(append(out, byte(len(name))), name...)
}

func appendTwo(out []byte, n int) []byte {
	return append(out, byte(n), byte(n>>8))
}
