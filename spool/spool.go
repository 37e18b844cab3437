// Package spool: small programs for a small machine: see DOC.md.
package spool

import (
	"spool/api"
	"spool/asm"
	"spool/disasm"
	"spool/link"
)

// Machine runs an image.
type Machine struct{}

// Assemble makes an object of a text (P3).
func Assemble(text string) (string, api.Errno, int) { return asm.Assemble(text) }

// Disassemble makes a text of an object (P4).
func Disassemble(object string) (string, api.Errno) { return disasm.Disassemble(object) }

// Link makes an image of objects (P5).
func Link(objects ...string) (string, api.Errno, int) { return link.Link(objects) }

// Load makes a machine of an image (P6).
func Load(image string) (*Machine, api.Errno) { return nil, api.OK }

// Functions tells the functions' names (P6).
func (m *Machine) Functions() []string { return nil }

// Run runs a function (P7).
func (m *Machine) Run(function string, input string, fuel int) api.Result { return api.Result{} }

// Entries tells what is in a map (P7).
func (m *Machine) Entries(name string) ([]api.Entry, api.Errno) { return nil, api.OK }
