// Package spool: small programs for a small machine: see DOC.md.
package spool

import (
	"spool/api"
	"spool/asm"
	"spool/disasm"
	"spool/link"
	"spool/machine"
)

// Machine runs an image.
type Machine struct{ inner *machine.Machine }

// Assemble makes an object of a text (P3).
func Assemble(text string) (string, api.Errno, int) { return asm.Assemble(text) }

// Disassemble makes a text of an object (P4).
func Disassemble(object string) (string, api.Errno) { return disasm.Disassemble(object) }

// Link makes an image of objects (P5).
func Link(objects ...string) (string, api.Errno, int) { return link.Link(objects) }

// Load makes a machine of an image (P6).
func Load(image string) (*Machine, api.Errno) {
	inner, err := machine.Load(image)
	if err != api.OK {
		return nil, err
	}
	return &Machine{inner}, api.OK
}

// Functions tells the functions' names (P6).
func (m *Machine) Functions() []string { return m.inner.Functions() }

// Run runs a function (P7).
func (m *Machine) Run(function string, input string, fuel int) api.Result {
	return m.inner.Run(function, input, fuel)
}

// Entries tells what is in a map (P7).
func (m *Machine) Entries(name string) ([]api.Entry, api.Errno) { return m.inner.Entries(name) }
