// Package link makes one image of objects.
package link

import (
	"slices"

	"spool/api"
	"spool/object"
	"spool/ops"
)

// Link makes an image of objects, or tells an error and the number of the
// object at which it is.
func Link(objects []string) (string, api.Errno, int) {
	if len(objects) == 0 || len(objects) > api.MaxObjects {
		return "", api.ErrArgs, 0
	}
	parts := decode(objects)
	if len(parts) < len(objects) {
		return "", api.ErrBytes, len(parts)
	}
	whole := join(parts)
	if e, at := firstFault(parts, whole); e != api.OK {
		return "", e, at
	}
	refer(whole)
	return object.EncodeImage(whole), api.OK, 0
}

// decode reads the objects up to the first that is no right one.
func decode(objects []string) []object.Program {
	table := ops.Table()
	var out []object.Program
	for _, bytes := range objects {
		p, ok := object.DecodeObject(table, bytes)
		if !ok {
			break
		}
		out = append(out, p)
	}
	return out
}

// join puts all parts together; a map that several have is one. Parts that do
// not go together are joined too: firstFault looks at them.
func join(parts []object.Program) object.Program {
	var whole object.Program
	for _, p := range parts {
		whole.Maps = append(whole.Maps, p.Maps...)
		whole.Funcs = append(whole.Funcs, p.Funcs...)
	}
	whole.Sort()
	whole.Maps = slices.Compact(whole.Maps)
	return whole
}

// refer gives the instructions the numbers of what they name.
func refer(whole object.Program) {
	for _, f := range whole.Funcs {
		for k := range f.Code {
			i := &f.Code[k]
			switch i.Refers() {
			case ops.AFunc:
				i.Number = int32(funcNumber(whole, i.Name))
			case ops.AMap:
				i.Number = int32(mapNumber(whole, i.Name))
			}
		}
	}
}

func funcNumber(p object.Program, name string) int {
	return slices.IndexFunc(p.Funcs, func(f object.Func) bool { return f.Name == name })
}

func mapNumber(p object.Program, name string) int {
	return slices.IndexFunc(p.Maps, func(m object.Map) bool { return m.Name == name })
}
