package scan

import (
	"math"
	"strings"
)

const (
	longestNumber = 20
	noDigit       = 255
)

// Number is a NUMBER as it is written: whether it goes into its place is
// asked only when the whole text is known to be one.
type Number struct {
	minus bool
	size  uint64
	huge  bool // more than 64 bits; size says nothing then
}

// Signed answers the number, if it goes into that many bits with its sign.
func (n Number) Signed(bits int) (int64, bool) {
	limit := uint64(1) << (bits - 1)
	switch {
	case n.huge:
		return 0, false
	case n.minus && n.size <= limit:
		return -int64(n.size), true
	case !n.minus && n.size < limit:
		return int64(n.size), true
	}
	return 0, false
}

// Wide answers the 64 bits of the number, if it goes into them with its sign
// or without one.
func (n Number) Wide() (uint64, bool) {
	switch {
	case n.huge:
		return 0, false
	case !n.minus:
		return n.size, true
	case n.size <= 1<<63:
		return -n.size, true
	}
	return 0, false
}

// Negated answers the number with the other sign: a jump in brackets has its
// sign as a part of its own.
func (n Number) Negated() Number {
	n.minus = !n.minus
	return n
}

func numberOf(word string) (Number, bool) {
	base, digits := uint64(10), word
	if strings.HasPrefix(word, "0x") {
		base, digits = 16, word[2:]
	}
	if digits == "" || len(word) > longestNumber {
		return Number{}, false
	}
	var out Number
	for n := range len(digits) {
		d := digitOf(digits[n])
		if d >= base {
			return Number{}, false
		}
		out.huge = out.huge || out.size > (math.MaxUint64-d)/base
		out.size = out.size*base + d
	}
	return out, true
}

func digitOf(b byte) uint64 {
	switch {
	case isDigit(b):
		return uint64(b - '0')
	case b >= 'a' && b <= 'f':
		return uint64(b-'a') + 10
	}
	return noDigit
}
