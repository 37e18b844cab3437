package ops

import (
	"slices"

	"spool/run"
)

// Sort is what a name in an instruction is the name of.
type Sort int

const (
	Nothing Sort = iota
	AFunc
	AMap
)

// The S of the ops that have two forms.
const (
	sourceNumber = 0
	sourceName   = 1
)

// What is added to an op's code for its other forms.
const (
	in32Bits   = 16
	withNumber = 32
	nextMemory = 4 // from loads to stores, and from those to stores of a number
)

// Op tells of one op.
type Op struct {
	Code   byte
	Words  []string // with which its text may begin
	Slots  int
	Jumps  bool // the jump leads to a slot
	Ends   bool // a function may end with it
	Refers Sort // what its name, if it has one, is the name of

	Read  func(r *Reading) bool // what stands behind the word; false, if it is no such instruction
	Write func(i Instr) string
	Needs func(i Instr) bool // all that it needs is right, and all else 0
	Do    doing
}

// doing is what an instruction does in a run.
type doing func(r *run.Run, i Instr)

var sizeWords = [4]string{"1", "2", "4", "8"}

const (
	firstArith = 1
	negCode    = 13
	jaCode     = 64
	firstJump  = 65
	firstLoad  = 128
	wideCode   = 192
	callCode   = 193
	exitCode   = 194
)

// Table makes the table anew: the language keeps functions out of tables that
// outlive a call.
func Table() []*Op {
	return slices.Concat(arithOps(), jumpOps(), memoryOps(), otherOps())
}

// Begins tells whether an instruction's text may begin with the word.
func Begins(table []*Op, word string) bool {
	for _, op := range table {
		if slices.Contains(op.Words, word) {
			return true
		}
	}
	return false
}

func byCode(table []*Op, code byte) *Op {
	for _, op := range table {
		if op.Code == code {
			return op
		}
	}
	return nil
}

// row makes an op of one slot from its word and the parts behind it.
func row(code byte, word string, parts []part, do doing) *Op {
	return &Op{
		Code:  code,
		Words: []string{word},
		Slots: 1,
		Read:  readParts(parts),
		Write: writeParts(word, parts),
		Needs: needParts(parts),
		Do:    do,
	}
}

func arithOps() []*Op {
	registers := []part{result(), comma(), source()}
	numbers := []part{result(), comma(), number()}
	var out []*Op
	for n, a := range ariths() {
		code := firstArith + byte(n)
		out = append(out,
			row(code, a.word, registers, become(a.in64, register)),
			row(code+in32Bits, a.word+"32", registers, become(a.in32, register)),
			row(code+withNumber, a.word, numbers, become(a.in64, written)),
			row(code+in32Bits+withNumber, a.word+"32", numbers, become(a.in32, written)))
	}
	alone := []part{result()}
	return append(out,
		row(negCode, "neg", alone, become(in64(negated), written)),
		row(negCode+in32Bits, "neg32", alone, become(in32(negated), written)))
}

func jumpOps() []*Op {
	registers := []part{operand(), comma(), source(), comma(), label()}
	numbers := []part{operand(), comma(), number(), comma(), label()}
	plain := row(jaCode, "ja", []part{label()}, goOn)
	plain.Ends = true
	out := []*Op{plain}
	for n, j := range jumps() {
		code := firstJump + byte(n)
		out = append(out,
			row(code, j.word, registers, goOnIf(j.so, register)),
			row(code+withNumber, j.word, numbers, goOnIf(j.so, written)))
	}
	for _, op := range out {
		op.Jumps = true
	}
	return out
}

func memoryOps() []*Op {
	loads := []part{result(), comma(), open(), source(), offset(), shut()}
	stores := []part{open(), operand(), offset(), shut(), comma(), source()}
	numbers := []part{open(), operand(), offset(), shut(), comma(), number()}
	var out []*Op
	for n, word := range sizeWords {
		code, size := firstLoad+byte(n), 1<<n
		out = append(out,
			row(code, "ld"+word, loads, load(size)),
			row(code+nextMemory, "st"+word, stores, store(size, register)),
			row(code+2*nextMemory, "st"+word, numbers, store(size, written)))
	}
	return out
}

func otherOps() []*Op {
	wide := row(wideCode, "wide", []part{result(), comma(), wideNumber()}, doWide)
	wide.Slots = 2
	wide.Refers = AMap
	call := &Op{
		Code:   callCode,
		Words:  []string{"help", "call"},
		Slots:  1,
		Refers: AFunc,
		Read:   readCall,
		Write:  writeCall,
		Needs:  needCall,
		Do:     doCall,
	}
	exit := row(exitCode, "exit", nil, doExit)
	exit.Ends = true
	return []*Op{wide, call, exit}
}
