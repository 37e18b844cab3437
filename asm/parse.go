package asm

import (
	"strings"

	"spool/ops"
	"spool/scan"
)

type kind int

const (
	emptyLine kind = iota
	mapLine
	funcLine
	labelLine
	codeLine
)

// line is what a line of a text says.
type line struct {
	kind  kind
	name  string         // of a map, a func, a label
	sizes [3]scan.Number // of a map
	instr ops.Instr
	fits  bool // all of the instruction goes into its places
}

// parse answers the text's lines, or the number of the first that is none.
func parse(table []*ops.Op, text string) ([]line, int) {
	var out []line
	inFunc := false
	for n, s := range strings.Split(text, "\n") {
		l, ok := parseLine(table, s)
		inFunc = inFunc || l.kind == funcLine
		if !ok || !inFunc && (l.kind == labelLine || l.kind == codeLine) {
			return nil, n + 1
		}
		out = append(out, l)
	}
	return out, 0
}

func parseLine(table []*ops.Op, text string) (line, bool) {
	in, ok := scan.New(text)
	if !ok || in.Done() {
		return line{}, ok
	}
	word := in.Word()
	if in.Mark(':') {
		ok := in.Done() && scan.IsName(word) && !isReserved(table, word)
		return line{kind: labelLine, name: word}, ok
	}
	switch word {
	case "map":
		return parseMap(in)
	case "func":
		name, ok := in.Name()
		return line{kind: funcLine, name: name}, ok && in.Done()
	}
	i, fits, ok := ops.Read(table, word, in)
	return line{kind: codeLine, instr: i, fits: fits}, ok
}

func parseMap(in scan.Line) (line, bool) {
	l := line{kind: mapLine}
	var ok bool
	if l.name, ok = in.Name(); !ok {
		return l, false
	}
	for n := range l.sizes {
		if l.sizes[n], ok = in.Number(); !ok {
			return l, false
		}
	}
	return l, in.Done()
}

// isReserved: as labels such words could not be told from other lines and
// registers.
func isReserved(table []*ops.Op, word string) bool {
	return word == "map" || word == "func" || scan.IsRegister(word) || ops.Begins(table, word)
}
