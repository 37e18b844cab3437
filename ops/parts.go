package ops

import (
	"strconv"

	"spool/scan"
)

// fields are those places of an instruction that a part fills.
type fields int

const (
	fieldD fields = 1 << iota
	fieldS
	fieldJump
	fieldNumber // and, of two slots, both numbers
)

const highestRegister = 10 // which no instruction may change

// part is one part of an instruction's text: what it fills, how it is read
// and written, and whether what it fills is right.
type part struct {
	fills fields
	read  func(r *Reading) bool
	write func(i Instr) string
	right func(i Instr) bool
}

func always(Instr) bool { return true }

func mark(b byte, told string) part {
	return part{
		read:  func(r *Reading) bool { return r.line.Mark(b) },
		write: func(Instr) string { return told },
		right: always,
	}
}

func comma() part { return mark(',', ", ") }

func open() part { return mark('[', "[") }

func shut() part { return mark(']', "]") }

// result is a D that the instruction changes.
func result() part {
	p := operand()
	p.right = func(i Instr) bool { return i.D < highestRegister }
	return p
}

// operand is a D that the instruction only looks at.
func operand() part {
	return part{
		fills: fieldD,
		read: func(r *Reading) bool {
			var ok bool
			r.instr.D, ok = r.line.Register()
			return ok
		},
		write: func(i Instr) string { return registerText(i.D) },
		right: func(i Instr) bool { return i.D <= highestRegister },
	}
}

func source() part {
	return part{
		fills: fieldS,
		read: func(r *Reading) bool {
			var ok bool
			r.instr.S, ok = r.line.Register()
			return ok
		},
		write: func(i Instr) string { return registerText(i.S) },
		right: func(i Instr) bool { return i.S <= highestRegister },
	}
}

func number() part {
	return part{
		fills: fieldNumber,
		read: func(r *Reading) bool {
			n, ok := r.line.Number()
			r.instr.Number = int32(r.signed(n, 32))
			return ok
		},
		write: func(i Instr) string { return strconv.Itoa(int(i.Number)) },
		right: always,
	}
}

// label is a jump that is written as a name; which slot that is, the rest of
// the text must tell.
func label() part {
	return part{
		fills: fieldJump,
		read: func(r *Reading) bool {
			var ok bool
			r.instr.Label, ok = r.line.Name()
			return ok
		},
		write: func(i Instr) string { return i.Label },
		right: always,
	}
}

// offset is a jump in brackets.
func offset() part {
	return part{fills: fieldJump, read: readOffset, write: writeOffset, right: always}
}

func readOffset(r *Reading) bool {
	minus := r.line.Mark('-')
	if !minus && !r.line.Mark('+') {
		return true
	}
	n, ok := r.line.Digits()
	if minus {
		n = n.Negated()
	}
	r.instr.Jump = int16(r.signed(n, 16))
	return ok
}

func writeOffset(i Instr) string {
	switch {
	case i.Jump > 0:
		return "+" + strconv.Itoa(int(i.Jump))
	case i.Jump < 0:
		return strconv.Itoa(int(i.Jump))
	}
	return ""
}

// wideNumber is a number of 64 bits, or a map.
func wideNumber() part {
	return part{
		fills: fieldS | fieldNumber,
		read:  readWide,
		write: writeWide,
		right: func(i Instr) bool {
			return i.S == sourceNumber || i.S == sourceName && i.High == 0
		},
	}
}

func readWide(r *Reading) bool {
	if ahead := r.line; ahead.Word() == "map" {
		name, ok := ahead.Name()
		r.line, r.instr.S, r.instr.Name = ahead, sourceName, name
		return ok
	}
	n, ok := r.line.Number()
	bits := r.wide(n)
	r.instr.Number, r.instr.High = int32(uint32(bits)), int32(bits>>32)
	return ok
}

func writeWide(i Instr) string {
	if i.S == sourceName {
		return "map " + i.Name
	}
	return strconv.FormatUint(i.wide(), 10)
}

func registerText(n byte) string { return "r" + strconv.Itoa(int(n)) }

// signed answers 0 for a number that does not go in: that is no fault yet, as a
// line further on may be none.
func (r *Reading) signed(n scan.Number, bits int) int64 {
	v, ok := n.Signed(bits)
	r.far = r.far || !ok
	return v
}

func (r *Reading) wide(n scan.Number) uint64 {
	v, ok := n.Wide()
	r.far = r.far || !ok
	return v
}
