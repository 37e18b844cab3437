package ops

import "spool/run"

// arith is an op that makes something of two values, in both of its widths.
type arith struct {
	word string
	in64 func(d, s run.Value) run.Value
	in32 func(d, s run.Value) run.Value
}

// ariths are in the order of their codes.
func ariths() [12]arith {
	return [12]arith{
		{"mov", taken, takenLow},
		{"add", orOffset(sum), in32(sum)},
		{"sub", orOffset(difference), in32(difference)},
		numeric("mul", func(a, b uint64, _ uint) uint64 { return a * b }),
		numeric("div", quotient),
		numeric("mod", remainder),
		numeric("and", func(a, b uint64, _ uint) uint64 { return a & b }),
		numeric("or", func(a, b uint64, _ uint) uint64 { return a | b }),
		numeric("xor", func(a, b uint64, _ uint) uint64 { return a ^ b }),
		numeric("lsh", func(a, b uint64, bits uint) uint64 { return a << shift(b, bits) }),
		numeric("rsh", func(a, b uint64, bits uint) uint64 { return a >> shift(b, bits) }),
		numeric("ash", signedShift),
	}
}

// reckoning is of two numbers of so many bits. Of what it answers just these
// bits count.
type reckoning func(a, b uint64, bits uint) uint64

func numeric(word string, of reckoning) arith {
	return arith{word, in64(of), in32(of)}
}

func in64(of reckoning) func(d, s run.Value) run.Value {
	return func(d, s run.Value) run.Value {
		return run.Number(of(d.Number(), s.Number(), 64))
	}
}

func in32(of reckoning) func(d, s run.Value) run.Value {
	return func(d, s run.Value) run.Value {
		return run.Number(low(of(low(d.Number()), low(s.Number()), 32)))
	}
}

// orOffset reckons with a pointer's offset, too.
func orOffset(of reckoning) func(d, s run.Value) run.Value {
	numbers := in64(of)
	return func(d, s run.Value) run.Value {
		if offset, ok := d.Offset(); ok {
			return d.At(of(offset, s.Number(), 64))
		}
		return numbers(d, s)
	}
}

func taken(_, s run.Value) run.Value { return s }

func takenLow(_, s run.Value) run.Value { return run.Number(low(s.Number())) }

func low(n uint64) uint64 { return uint64(uint32(n)) }

func sum(a, b uint64, _ uint) uint64 { return a + b }

func difference(a, b uint64, _ uint) uint64 { return a - b }

func negated(a, _ uint64, _ uint) uint64 { return -a }

func quotient(a, b uint64, _ uint) uint64 {
	if b == 0 {
		return 0
	}
	return a / b
}

func remainder(a, b uint64, _ uint) uint64 {
	if b == 0 {
		return a
	}
	return a % b
}

func shift(b uint64, bits uint) uint64 { return b & uint64(bits-1) }

func signedShift(a, b uint64, bits uint) uint64 {
	room := 64 - bits // between the sign and the highest bit
	return uint64(int64(a<<room) >> room >> shift(b, bits))
}
