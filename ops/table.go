package ops

import "slices"

// Sort is what a name in an instruction is the name of.
type Sort int

const (
	Nothing Sort = iota
	AFunc
	AMap
)

// The S of the ops that have two forms.
const (
	sourceNumber = 0
	sourceName   = 1
)

// What is added to an op's code for its other forms.
const (
	in32Bits   = 16
	withNumber = 32
	nextMemory = 4 // from loads to stores, and from those to stores of a number
)

// Op tells of one op.
type Op struct {
	Code   byte
	Words  []string // with which its text may begin
	Slots  int
	Jumps  bool // the jump leads to a slot
	Ends   bool // a function may end with it
	Refers Sort // what its name, if it has one, is the name of

	Read  func(r *Reading) bool // what stands behind the word; false, if it is no such instruction
	Write func(i Instr) string
	Needs func(i Instr) bool // all that it needs is right, and all else 0
}

var (
	arithWords = [12]string{"mov", "add", "sub", "mul", "div", "mod", "and", "or", "xor", "lsh", "rsh", "ash"}
	jumpWords  = [11]string{"jeq", "jne", "jgt", "jge", "jlt", "jle", "jsgt", "jsge", "jslt", "jsle", "jset"}
	sizeWords  = [4]string{"1", "2", "4", "8"}
)

const (
	firstArith = 1
	negCode    = 13
	jaCode     = 64
	firstJump  = 65
	firstLoad  = 128
	wideCode   = 192
	callCode   = 193
	exitCode   = 194
)

// Table makes the table anew: the language keeps functions out of tables that
// outlive a call.
func Table() []*Op {
	return slices.Concat(arithOps(), jumpOps(), memoryOps(), otherOps())
}

// Begins tells whether an instruction's text may begin with the word.
func Begins(table []*Op, word string) bool {
	for _, op := range table {
		if slices.Contains(op.Words, word) {
			return true
		}
	}
	return false
}

func byCode(table []*Op, code byte) *Op {
	for _, op := range table {
		if op.Code == code {
			return op
		}
	}
	return nil
}

// row makes an op of one slot from its word and the parts behind it.
func row(code byte, word string, parts []part) *Op {
	return &Op{
		Code:  code,
		Words: []string{word},
		Slots: 1,
		Read:  readParts(parts),
		Write: writeParts(word, parts),
		Needs: needParts(parts),
	}
}

func arithOps() []*Op {
	registers := []part{result(), comma(), source()}
	numbers := []part{result(), comma(), number()}
	var out []*Op
	for n, word := range arithWords {
		code := firstArith + byte(n)
		out = append(out,
			row(code, word, registers),
			row(code+in32Bits, word+"32", registers),
			row(code+withNumber, word, numbers),
			row(code+in32Bits+withNumber, word+"32", numbers))
	}
	alone := []part{result()}
	return append(out, row(negCode, "neg", alone), row(negCode+in32Bits, "neg32", alone))
}

func jumpOps() []*Op {
	registers := []part{operand(), comma(), source(), comma(), label()}
	numbers := []part{operand(), comma(), number(), comma(), label()}
	plain := row(jaCode, "ja", []part{label()})
	plain.Ends = true
	out := []*Op{plain}
	for n, word := range jumpWords {
		code := firstJump + byte(n)
		out = append(out, row(code, word, registers), row(code+withNumber, word, numbers))
	}
	for _, op := range out {
		op.Jumps = true
	}
	return out
}

func memoryOps() []*Op {
	loads := []part{result(), comma(), open(), source(), offset(), shut()}
	stores := []part{open(), operand(), offset(), shut(), comma(), source()}
	numbers := []part{open(), operand(), offset(), shut(), comma(), number()}
	var out []*Op
	for n, size := range sizeWords {
		code := firstLoad + byte(n)
		out = append(out,
			row(code, "ld"+size, loads),
			row(code+nextMemory, "st"+size, stores),
			row(code+2*nextMemory, "st"+size, numbers))
	}
	return out
}

func otherOps() []*Op {
	wide := row(wideCode, "wide", []part{result(), comma(), wideNumber()})
	wide.Slots = 2
	wide.Refers = AMap
	call := &Op{
		Code:   callCode,
		Words:  []string{"help", "call"},
		Slots:  1,
		Refers: AFunc,
		Read:   readCall,
		Write:  writeCall,
		Needs:  needCall,
	}
	exit := row(exitCode, "exit", nil)
	exit.Ends = true
	return []*Op{wide, call, exit}
}
