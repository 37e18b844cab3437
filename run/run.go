package run

import "spool/api"

const (
	firstArgument = 1
	lastArgument  = 5
	stackEnd      = 10 // the register that points there
	registers     = 11
)

// call is a function's call that has not come back.
type call struct {
	function  int
	slot      int // of the instruction that is being done
	next      int // the slot behind it, or where it jumps
	registers [registers]Value
	stack     *region
}

// Run is a run from its start to its end.
type Run struct {
	maps  []*Map
	input *region
	calls []call
	fuel  int
	used  int
	log   []uint64
	r0    uint64 // when it has ended
	ended bool
}

// Start makes a run that is at the beginning of a function.
func Start(maps []*Map, function int, input string, fuel int) *Run {
	given := &region{[]byte(input[:min(len(input), api.MaxInput)])}
	r := &Run{maps: maps, input: given, fuel: min(max(fuel, 0), api.MaxFuel)}
	r.enter(function)
	r.Set(1, pointer(given, 0))
	r.Set(2, Number(uint64(len(given.bytes))))
	return r
}

// Ended tells whether the first function has come back.
func (r *Run) Ended() bool { return r.ended }

// Place is the function and the slot at which the run is.
func (r *Run) Place() (function, slot int) {
	c := r.top()
	return c.function, c.slot
}

// Result is what stays of the run, but a trap.
func (r *Run) Result() api.Result {
	return api.Result{R0: r.r0, Input: string(r.input.bytes), Log: r.log, Used: r.used}
}

// Begin pays for an instruction of so many slots.
func (r *Run) Begin(slots int) {
	if r.used == r.fuel {
		panic(api.Fuel)
	}
	r.used++
	c := r.top()
	c.next = c.slot + slots
}

// Next goes to the instruction behind the one that was done.
func (r *Run) Next() {
	c := r.top()
	c.slot = c.next
}

// Jump makes the slot the one at which the run goes on.
func (r *Run) Jump(slot int) { r.top().next = slot }

// Register tells a register's value.
func (r *Run) Register(n byte) Value { return r.top().registers[n] }

// Set gives a register a value.
func (r *Run) Set(n byte, v Value) { r.top().registers[n] = v }

// Map is the map of that number, as a value.
func (r *Run) Map(n int) Value { return Value{sort: aMap, table: r.maps[n]} }

// Call goes into a function.
func (r *Run) Call(function int) {
	if len(r.calls) == api.MaxDepth {
		panic(api.Depth)
	}
	given := r.top().registers
	r.enter(function)
	copy(r.top().registers[firstArgument:], given[firstArgument:lastArgument+1])
}

// Exit comes back from a function, or ends the run.
func (r *Run) Exit() {
	answer := r.Register(0)
	if len(r.calls) == 1 {
		r.r0 = answer.Number()
		r.ended = true
		return
	}
	r.top().stack.die()
	r.calls = r.calls[:len(r.calls)-1]
	r.answer(answer)
}

func (r *Run) top() *call { return &r.calls[len(r.calls)-1] }

func (r *Run) enter(function int) {
	stack := &region{make([]byte, api.StackSize)}
	r.calls = append(r.calls, call{function: function, stack: stack})
	r.Set(stackEnd, pointer(stack, api.StackSize))
}

// answer is how all that was called, helpers too, leaves the registers.
func (r *Run) answer(v Value) {
	c := r.top()
	c.registers[0] = v
	clear(c.registers[firstArgument : lastArgument+1])
}
