// Package ops tells of the machine's instructions: one table says of each op
// how it is written, what it needs and what it does.
package ops

// SlotSize is how many bytes a slot has.
const SlotSize = 8

const emptyHead = "\x00\x00\x00\x00" // a second slot ahead of its number

// Instr is an instruction, between its text and its slots.
type Instr struct {
	Op     *Op
	D, S   byte
	Jump   int16
	Number int32
	High   int32  // the second slot's number
	Label  string // in a text: where the jump leads
	Name   string // in a text or an object: the function, the map; in an image the number is theirs
}

// Refers tells what the instruction's name is the name of.
func (i Instr) Refers() Sort {
	if i.S == sourceName {
		return i.Op.Refers
	}
	return Nothing
}

// Target is the slot to which the jump leads, from an instruction at a slot.
func (i Instr) Target(slot int) int {
	return slot + i.Op.Slots + int(i.Jump)
}

// JumpTo is the jump that leads from an instruction at a slot to the target.
func (i Instr) JumpTo(slot, target int) int16 {
	return int16(target - slot - i.Op.Slots)
}

// wide is the number of 64 bits of two slots.
func (i Instr) wide() uint64 {
	return uint64(uint32(i.High))<<32 | uint64(uint32(i.Number))
}

// AppendSlots adds the instruction's slots to the bytes.
func (i Instr) AppendSlots(out []byte) []byte {
	out = append(out, i.Op.Code, i.D|i.S<<4, byte(i.Jump), byte(i.Jump>>8))
	out = appendNumber(out, i.Number)
	if i.Op.Slots == 1 {
		return out
	}
	return appendNumber(append(out, emptyHead...), i.High)
}

// FromSlots reads the instruction with which the slots begin; false, if it is
// not as the table says.
func FromSlots(table []*Op, slots string) (Instr, bool) {
	if len(slots) < SlotSize {
		return Instr{}, false
	}
	op := byCode(table, slots[0])
	if op == nil || len(slots) < op.Slots*SlotSize {
		return Instr{}, false
	}
	i := Instr{Op: op, D: slots[1] & 15, S: slots[1] >> 4, Number: numberAt(slots[4:])}
	i.Jump = int16(uint16(slots[2]) | uint16(slots[3])<<8)
	if op.Slots > 1 {
		second := slots[SlotSize:]
		if second[:4] != emptyHead {
			return Instr{}, false
		}
		i.High = numberAt(second[4:])
	}
	return i, op.Needs(i)
}

func appendNumber(out []byte, n int32) []byte {
	return append(out, byte(n), byte(n>>8), byte(n>>16), byte(n>>24))
}

func numberAt(text string) int32 {
	return int32(uint32(text[0]) | uint32(text[1])<<8 | uint32(text[2])<<16 | uint32(text[3])<<24)
}
