// Package asm makes objects of texts.
package asm

import (
	"spool/api"
	"spool/object"
	"spool/ops"
	"spool/scan"
)

// Assemble makes an object of a text, or tells an error and its line.
func Assemble(text string) (string, api.Errno, int) {
	if len(text) > api.MaxText {
		return "", api.ErrLimit, 0
	}
	lines, wrong := parse(ops.Table(), text)
	if wrong > 0 {
		return "", api.ErrSyntax, wrong
	}
	all := outlineOf(lines)
	if e, at := firstFault(lines, all); e != api.OK {
		return "", e, at
	}
	return object.EncodeObject(build(lines, all)), api.OK, 0
}

// build makes the program of a text without faults.
func build(lines []line, all outline) object.Program {
	var p object.Program
	slot := 0
	for _, l := range lines {
		last := len(p.Funcs) - 1
		switch l.kind {
		case mapLine:
			p.Maps = append(p.Maps, mapOf(l))
		case funcLine:
			p.Funcs = append(p.Funcs, object.Func{Name: l.name})
			slot = 0
		case codeLine:
			i := l.instr
			if i.Op.Jumps {
				i.Jump = i.JumpTo(slot, all.funcs[last].labels[i.Label])
			}
			p.Funcs[last].Code = append(p.Funcs[last].Code, i)
			slot += i.Op.Slots
		}
	}
	p.Sort()
	return p
}

func mapOf(l line) object.Map {
	return object.Map{
		Name:    l.name,
		Key:     sizeOf(l.sizes[0]),
		Value:   sizeOf(l.sizes[1]),
		Entries: sizeOf(l.sizes[2]),
	}
}

func sizeOf(n scan.Number) byte {
	v, _ := n.Signed(64)
	return byte(v)
}
