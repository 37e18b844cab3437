// Package scan reads a line of a text part by part.
package scan

import (
	"strconv"
	"strings"

	"spool/api"
)

const (
	lowestByte  = ' '
	highestByte = '~'
	registers   = 11
)

// Line is what is left to read of a line. A copy of it reads on by itself, so
// that one way of reading can be tried ahead of another.
type Line struct {
	rest string
}

// New answers false if a byte is none of a text's, behind a `;` too.
func New(text string) (Line, bool) {
	for n := range len(text) {
		if text[n] < lowestByte || text[n] > highestByte {
			return Line{}, false
		}
	}
	rest, _, _ := strings.Cut(text, ";")
	return Line{rest: rest}, true
}

// Done tells whether nothing but blanks is left.
func (l *Line) Done() bool {
	l.skipBlanks()
	return l.rest == ""
}

// Mark takes the byte b, if it is the next part.
func (l *Line) Mark(b byte) bool {
	l.skipBlanks()
	if l.rest == "" || l.rest[0] != b {
		return false
	}
	l.rest = l.rest[1:]
	return true
}

// Word takes as many bytes of names and numbers as stand together: two of
// these have a blank between them, so a shorter piece would be none.
func (l *Line) Word() string {
	l.skipBlanks()
	n := 0
	for n < len(l.rest) && isWordByte(l.rest[n]) {
		n++
	}
	word := l.rest[:n]
	l.rest = l.rest[n:]
	return word
}

// Name takes a name.
func (l *Line) Name() (string, bool) {
	word := l.Word()
	return word, IsName(word)
}

// Register takes a register, and answers its number.
func (l *Line) Register() (byte, bool) {
	return registerOf(l.Word())
}

// Number takes a NUMBER, with a `-` or without.
func (l *Line) Number() (Number, bool) {
	minus := l.Mark('-')
	if minus && strings.HasPrefix(l.rest, " ") {
		return Number{}, false
	}
	n, ok := l.Digits()
	n.minus = minus
	return n, ok
}

// Digits takes a NUMBER without a `-`.
func (l *Line) Digits() (Number, bool) {
	return numberOf(l.Word())
}

func (l *Line) skipBlanks() {
	l.rest = strings.TrimLeft(l.rest, " ")
}

// IsName tells whether the text is a name, in texts and in bytes alike.
func IsName(text string) bool {
	if text == "" || len(text) > api.MaxName || !isLetter(text[0]) {
		return false
	}
	for n := range len(text) {
		if !isWordByte(text[n]) {
			return false
		}
	}
	return true
}

// IsRegister tells whether the word is a register.
func IsRegister(word string) bool {
	_, ok := registerOf(word)
	return ok
}

func registerOf(word string) (byte, bool) {
	for n := range registers {
		if word == "r"+strconv.Itoa(n) {
			return byte(n), true
		}
	}
	return 0, false
}

func isLetter(b byte) bool { return b >= 'a' && b <= 'z' }

func isDigit(b byte) bool { return b >= '0' && b <= '9' }

func isWordByte(b byte) bool { return isLetter(b) || isDigit(b) || b == '_' }
