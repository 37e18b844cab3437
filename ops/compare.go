package ops

import (
	"cmp"

	"spool/run"
)

// jump is an op that goes on elsewhere if something is so.
type jump struct {
	word string
	so   func(d, s run.Value) bool
}

// jumps are in the order of their codes.
func jumps() [11]jump {
	return [11]jump{
		{"jeq", func(d, s run.Value) bool { return d == s }},
		{"jne", func(d, s run.Value) bool { return d != s }},
		{"jgt", unsigned(above)},
		{"jge", unsigned(atLeast)},
		{"jlt", unsigned(below)},
		{"jle", unsigned(atMost)},
		{"jsgt", signed(above)},
		{"jsge", signed(atLeast)},
		{"jslt", signed(below)},
		{"jsle", signed(atMost)},
		{"jset", unsigned(func(a, b uint64) bool { return a&b != 0 })},
	}
}

func unsigned(so func(a, b uint64) bool) func(d, s run.Value) bool {
	return func(d, s run.Value) bool { return so(d.Number(), s.Number()) }
}

func signed(so func(a, b int64) bool) func(d, s run.Value) bool {
	return unsigned(func(a, b uint64) bool { return so(int64(a), int64(b)) })
}

func above[N cmp.Ordered](a, b N) bool { return a > b }

func atLeast[N cmp.Ordered](a, b N) bool { return a >= b }

func below[N cmp.Ordered](a, b N) bool { return a < b }

func atMost[N cmp.Ordered](a, b N) bool { return a <= b }
