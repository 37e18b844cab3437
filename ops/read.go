package ops

import (
	"slices"
	"strings"

	"spool/scan"
)

// Reading is an instruction that is being read from a line.
type Reading struct {
	word  string
	line  scan.Line
	instr Instr
	far   bool // a number does not go into its place
}

// Read reads the instruction that begins with the word and goes on with the
// line. It answers whether all of it goes into its places, and whether it is
// an instruction at all.
func Read(table []*Op, word string, line scan.Line) (i Instr, fits, ok bool) {
	for _, op := range table {
		if !slices.Contains(op.Words, word) {
			continue
		}
		r := Reading{word: word, line: line, instr: Instr{Op: op}}
		if op.Read(&r) && r.line.Done() {
			return r.instr, !r.far && op.Needs(r.instr), true
		}
	}
	return Instr{}, false, false
}

func readParts(parts []part) func(r *Reading) bool {
	return func(r *Reading) bool {
		for _, p := range parts {
			if !p.read(r) {
				return false
			}
		}
		return true
	}
}

func writeParts(word string, parts []part) func(i Instr) string {
	return func(i Instr) string {
		var out strings.Builder
		out.WriteString(word)
		for n, p := range parts {
			if n == 0 {
				out.WriteString(" ")
			}
			out.WriteString(p.write(i))
		}
		return out.String()
	}
}

func needParts(parts []part) func(i Instr) bool {
	var filled fields
	for _, p := range parts {
		filled |= p.fills
	}
	return func(i Instr) bool {
		for _, p := range parts {
			if !p.right(i) {
				return false
			}
		}
		return othersEmpty(i, filled)
	}
}

func othersEmpty(i Instr, filled fields) bool {
	return (filled&fieldD != 0 || i.D == 0) &&
		(filled&fieldS != 0 || i.S == 0) &&
		(filled&fieldJump != 0 || i.Jump == 0) &&
		(filled&fieldNumber != 0 || i.Number == 0)
}
