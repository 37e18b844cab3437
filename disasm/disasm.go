// Package disasm tells objects as texts.
package disasm

import (
	"strconv"
	"strings"

	"spool/api"
	"spool/object"
	"spool/ops"
)

// Disassemble makes a text of an object's bytes.
func Disassemble(bytes string) (string, api.Errno) {
	p, ok := object.DecodeObject(ops.Table(), bytes)
	if !ok {
		return "", api.ErrBytes
	}
	var out strings.Builder
	for _, m := range p.Maps {
		out.WriteString("map " + m.Name + size(m.Key) + size(m.Value) + size(m.Entries) + "\n")
	}
	for _, f := range p.Funcs {
		out.WriteString("func " + f.Name + "\n")
		writeCode(&out, f)
	}
	return out.String(), api.OK
}

func size(n byte) string { return " " + strconv.Itoa(int(n)) }

func writeCode(out *strings.Builder, f object.Func) {
	labels := labelsOf(f)
	slot := 0
	for _, i := range f.Code {
		if labels[slot] != "" {
			out.WriteString(labels[slot] + ":\n")
		}
		if i.Op.Jumps {
			i.Label = labels[i.Target(slot)]
		}
		out.WriteString("  " + i.Op.Write(i) + "\n")
		slot += i.Op.Slots
	}
}

// labelsOf answers the label of each slot, "" where no jump leads.
func labelsOf(f object.Func) []string {
	led := make([]bool, f.Slots())
	slot := 0
	for _, i := range f.Code {
		if i.Op.Jumps {
			led[i.Target(slot)] = true
		}
		slot += i.Op.Slots
	}
	labels := make([]string, len(led))
	next := 0
	for n := range led {
		if led[n] {
			labels[n] = "l" + strconv.Itoa(next)
			next++
		}
	}
	return labels
}
