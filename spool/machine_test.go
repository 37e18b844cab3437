package spool_test

import (
	"fmt"
	"math/rand"
	"slices"
	"strings"
	"sync"
	"testing"
	"unsafe"

	"spool/api"
	"spool/spool"
)

// author writes programs at random that mostly make sense: r6 is a pointer to
// the input or into the stack, r7 a pointer that is not to be trusted, r8 a
// map, the others are numbers.
type author struct {
	*rand.Rand
	labels int
}

func (a *author) of(l ...string) string { return l[a.Intn(len(l))] }

func (a *author) numbers() string { return a.of("r0", "r3", "r4", "r5", "r9") }

func (a *author) value() string {
	if a.Intn(30) == 0 {
		return a.of("r1", "r6", "r7", "r8", "r10")
	}
	if a.Intn(2) == 0 {
		return a.numbers()
	}
	return a.of("0", "1", "2", "5", "31", "32", "33", "63", "64", "-1", "-7", "255", "256", "65535", "2147483647", "-2147483648", fmt.Sprint(a.Intn(1000)-500))
}

func (a *author) pointer() string {
	if a.Intn(30) == 0 {
		return a.of("r1", "r7", "r8", "r0")
	}
	return a.of("r6+0", "r6+1", "r6-1", "r6+2", "r6+4", "r6+8", "r10-8", "r10-16", "r10-64", "r10-4", "r10-1", "r7+0", "r7+1", "r10-60", "r10-3")
}

func (a *author) label() string { return fmt.Sprintf("x%d", a.Intn(a.labels+1)) }

// helped: a helper with a key and a value that are mostly there.
func (a *author) helped() string {
	out := "wide r1, map " + a.of("a", "a", "b") + " / mov r2, " + a.of("r6", "r10", "r10") + " / sub r2, " + a.of("0", "4", "6", "8", "16") + " / "
	if a.Intn(20) == 0 {
		out = ""
	}
	return out + a.of(
		"help get / mov r7, r0",
		"help get / jeq r0, 0, x0 / mov r7, r0 / ld1 r3, [r7]",
		"mov r3, r10 / sub r3, 24 / help put",
		"mov r3, r10 / sub r3, 24 / help put",
		"mov r3, r10 / sub r3, 24 / help put",
		"mov r3, r7 / help put",
		"help del",
	)
}

func (a *author) line(last bool) string {
	switch k := a.Intn(20); {
	case k < 6:
		bits := a.of("", "32")
		return a.of("mov", "add", "sub", "mul", "div", "mod", "and", "or", "xor", "lsh", "rsh", "ash") + bits + " " + a.numbers() + ", " + a.value()
	case k == 6:
		return a.of("neg ", "neg32 ") + a.numbers()
	case k == 7:
		return a.of("jeq", "jne", "jgt", "jge", "jlt", "jle", "jsgt", "jsge", "jslt", "jsle", "jset") + " " + a.numbers() + ", " + a.value() + ", " + a.label()
	case k == 8:
		return a.of("jeq", "jne") + " " + a.of("r6", "r7", "r8", "r10", "r0") + ", " + a.of("r6", "r7", "r8", "r10", "0") + ", " + a.label()
	case k < 11:
		return a.of("ld1", "ld2", "ld4", "ld8") + " " + a.numbers() + ", [" + a.pointer() + "]"
	case k < 13:
		return a.of("st1", "st2", "st4", "st8") + " [" + a.pointer() + "], " + a.value()
	case k == 13:
		return "wide " + a.numbers() + ", " + a.of("0x8000000000000000", "-1", "0xffffffff", "0x100000000", "0x123456789abcdef")
	case k == 14:
		return "mov r1, " + a.value() + " / help log"
	case k < 18:
		return a.helped()
	case k == 18 && !last:
		return "mov r1, " + a.of("r6", "r10", "r9") + " / call " + a.of("g", "h", "h") + a.of("", " / mov r7, r0", " / mov r0, 1")
	case a.Intn(6) == 0:
		return "ja " + a.label()
	}
	return a.of("mov r7, r6", "mov r7, r10 / sub r7, 8", "add r7, 1", "sub r7, r9", "mov r9, r0")
}

// function: its labels stand between its lines, x0 at first.
func (a *author) function(name string, last bool) string {
	a.labels = 1 + a.Intn(3)
	out := "func " + name + " / mov r6, " + a.of("r1", "r10 / sub r6, 32") + " / wide r8, map a / x0: / "
	for n := range a.labels {
		for range a.Intn(8) {
			out += a.line(last) + " / "
		}
		out += fmt.Sprintf("x%d: / ", n+1)
	}
	return out + a.of("exit", "mov r0, 7 / exit", "mov r0, r9 / exit", "and r0, 255 / jne r0, 0, x1 / exit")
}

// TestAnyPrograms: P7: programs at random, as the model runs them.
func TestAnyPrograms(t *testing.T) {
	t.Parallel()
	a := &author{Rand: rand.New(rand.NewSource(7))}
	traps := map[api.Trap]int{}
	done := map[int]int{}
	for range 5000 {
		m := machineOf(t, fmt.Sprintf("map a %d %d %d / map b 1 2 3", 1+a.Intn(8), 1+a.Intn(16), 1+a.Intn(8)), a.function("f", false), a.function("g", false), a.function("h", true))
		for range 6 {
			r := m.run(a.of("f", "f", "g", "h"), bytes32[a.Intn(8):][:a.Intn(25)], a.of2(5000, a.Intn(60)))
			traps[r.Trap]++
		}
		for op, n := range m.model.done {
			done[op] += n
		}
		if t.Failed() {
			t.FailNow()
		}
	}
	for trap := api.None; trap <= api.Log; trap++ {
		if traps[trap] < 50 {
			t.Errorf("trap %d came only %d times", trap, traps[trap])
		}
	}
	for op := range 256 {
		if p := (parts{op: op}); (p.fit() || op == 193) && done[op] < 50 {
			t.Errorf("op %d was done only %d times", op, done[op])
		}
	}
}

func (a *author) of2(x, y int) int {
	if a.Intn(2) == 0 {
		return x
	}
	return y
}

// TestAnySlots: P1, P7: right images of slots at random.
func TestAnySlots(t *testing.T) {
	t.Parallel()
	r := rand.New(rand.NewSource(8))
	codes := []int{192, 193, 193, 194}
	for op := range 140 {
		if (parts{op: op}).fit() {
			codes = append(codes, op)
		}
	}
	for range 4000 {
		var funcs []fun
		for _, name := range []string{"f", "g"} {
			code := ""
			for range 1 + r.Intn(20) {
				code += anySlot(r, codes[r.Intn(len(codes))])
			}
			funcs = append(funcs, fun{name, code + exit})
		}
		i := image([]sized{{"m", 1 + r.Intn(8), 1 + r.Intn(16), 1 + r.Intn(8)}}, funcs)
		if !wantLoadOrNot(t, i) {
			continue
		}
		m := pairOf(t, i)
		for _, fuel := range []int{r.Intn(30), 100, 5000} {
			m.run("f", bytes32[:r.Intn(33)], fuel)
			m.run("g", bytes32[:r.Intn(33)], fuel)
		}
	}
}

// anySlot: jumps lead to where an instruction stands if no `wide` is near.
func anySlot(r *rand.Rand, op int) string {
	p := parts{op, r.Intn(11), r.Intn(11), r.Intn(3), r.Intn(5)}
	for _, less := range []func(){func() { p.number = 0 }, func() { p.s = r.Intn(2) }, func() { p.s, p.d = 0, 0 }, func() { p.jump = 0 }, func() { p.number = 1 }} {
		if !p.fit() || r.Intn(9) == 0 {
			less()
		}
	}
	if op == 192 {
		return slot(op, p.d%10, p.s%2, 0, 0) + blank
	}
	if !p.fit() {
		return slot(33, r.Intn(10), 0, 0, r.Intn(9))
	}
	return slot(op, p.d, p.s, p.jump, p.number)
}

// counting: adds one to the number of 8 bytes under the input's key, and tells
// it.
const counting = "map m 1 8 4 / func f / mov r6, r1 / mov r2, r1 / wide r1, map m / help get / jeq r0, 0, new / ld8 r3, [r0] / add r3, 1 / st8 [r0], r3 / mov r7, r3 / mov r1, r3 / help log / mov r0, r7 / exit / new: / mov r2, r6 / mov r3, r10 / sub r3, 8 / st8 [r3], 1 / wide r1, map m / help put / mov r0, 1 / exit / func t / mov r0, r1 / exit / func x / st1 [r1], 88 / ld1 r0, [r1+1] / exit"

// TestManySides: one machine is used from several goroutines: each run is
// whole.
func TestManySides(t *testing.T) {
	m := machineOf(t, counting)
	var all sync.WaitGroup
	seen := make([][]uint64, 8)
	for k := range seen {
		all.Go(func() {
			for range 100 {
				r := m.Run("f", "k", 99)
				seen[k] = append(seen[k], r.R0)
				if r.Trap != api.None || r.R0 > 1 && !slices.Equal(r.Log, []uint64{r.R0}) {
					t.Errorf("P7: %+v", r)
				}
				wantResult(t, m.Run("t", "in", 9), api.Result{Trap: api.Tag, Func: "t", Slot: 1, Input: "in", Used: 2})
				wantResult(t, m.Run("x", "y", 9), api.Result{Trap: api.Bounds, Func: "x", Slot: 1, Input: "X", Used: 2})
				if l, e := m.Entries("m"); len(l) != 1 || l[0].Key != "k" || e != api.OK {
					t.Errorf("P7: Entries: %q, %d", l, e)
				}
				if l := m.Functions(); len(l) != 3 {
					t.Errorf("P6: Functions: %q", l)
				}
			}
		})
	}
	all.Wait()
	numbers := slices.Concat(seen...)
	slices.Sort(numbers)
	for n, got := range numbers {
		if got != uint64(n+1) {
			t.Fatalf("P7: run %d counted %d", n, got)
		}
	}
	m.wantEntries("m", api.Entry{Key: "k", Value: "\x20\x03\x00\x00\x00\x00\x00\x00"})
}

// TestMachinesApart: P2: also those of one image, and at the same time.
func TestMachinesApart(t *testing.T) {
	i := imageOfText(t, counting)
	var all sync.WaitGroup
	for k := range 8 {
		m := pairOf(t, i)
		all.Go(func() {
			for n := range 20 + k {
				if r := m.Run("f", "k", 99); r.R0 != uint64(n+1) {
					t.Errorf("P2: run %d counted %d", n, r.R0)
				}
			}
		})
	}
	all.Wait()
	one, other := pairOf(t, i), pairOf(t, i)
	one.run("f", "k", 99)
	other.wantEntries("m")
	other.run("f", "j", 99)
	one.wantEntries("m", api.Entry{Key: "k", Value: "\x01\x00\x00\x00\x00\x00\x00\x00"})
	third := pairOf(t, i)
	third.wantEntries("m")
}

// TestSameRuns: P2: what a run answers hangs on its arguments and on the runs
// ahead alone.
func TestSameRuns(t *testing.T) {
	i := imageOfText(t, counting)
	type answer struct {
		told string
		e    api.Errno
	}
	questions := [][]string{{"f", "k"}, {"f", "k", "k"}, {"f", "k", "j", "k", "a", "b", "c"}, {"t", "a"}, {"x", "abc"}, {"g", "a"}, {"f", ""}}
	wantSame(t, len(questions), func(n int) (a answer) {
		m, e := spool.Load(i)
		if a.e = e; e != api.OK {
			return a
		}
		for _, input := range questions[n][1:] {
			l, _ := m.Entries("m")
			a.told += fmt.Sprintf("%+v %q ", m.Run(questions[n][0], input, 99), l)
		}
		return a
	})
}

// TestRunsApart: P8: no run leaves anything but what is in maps: not its input,
// its stack, its registers, its log, its fuel.
func TestRunsApart(t *testing.T) {
	m := machineOf(t, "map m 1 1 1 / func f / ld8 r0, [r10-8] / add r0, r3 / add r0, r4 / add r0, r5 / add r0, r6 / add r0, r7 / add r0, r8 / add r0, r9 / ld8 r3, [r10-64] / add r0, r3 / exit",
		"func g / st8 [r10-8], 9 / st8 [r10-64], 9 / mov r0, 9 / mov r3, 9 / mov r6, 9 / mov r9, 9 / st1 [r1], 65 / mov r1, 5 / help log / call g / exit")
	clean := api.Result{Input: "in", Used: 11}
	for range 30 {
		wantResult(t, m.run("f", "in", 11), clean)
		if r := m.run("g", "in", 5000); r.Trap != api.Tag || len(r.Log) != 1 || r.Input != "An" {
			t.Errorf("P8: %+v", r)
		}
	}
	m.wantEntries("m")
	if l := m.Functions(); !slices.Equal(l, []string{"f", "g"}) {
		t.Errorf("P8: %q", l)
	}
}

// TestInputStays: P2: what is handed in is neither changed nor kept.
func TestInputStays(t *testing.T) {
	m := machineOf(t, "map m 1 1 4 / func f / st1 [r1], 65 / mov r2, r1 / mov r3, r1 / wide r1, map m / help put / exit")
	bytes := []byte("abc" + strings.Repeat("-", 40))
	input := unsafe.String(&bytes[0], len(bytes))
	name := []byte("f")
	r := m.Run(unsafe.String(&name[0], 1), input, 99)
	if string(bytes) != "abc"+strings.Repeat("-", 40) || string(name) != "f" {
		t.Errorf("P2: the input was changed: %q", bytes)
	}
	clear(bytes)
	clear(name)
	wantResult(t, r, api.Result{Input: "Abc" + strings.Repeat("-", 29), Used: 6})
	m.wantEntries("m", api.Entry{Key: "A", Value: "A"})

	traps := machineOf(t, "func trap / exit / func f / ld1 r0, [r1+9] / exit")
	name = []byte("f")
	r = traps.Run(unsafe.String(&name[0], 1), "", 9)
	clear(name)
	wantResult(t, r, api.Result{Trap: api.Bounds, Func: "f", Used: 1})
}

// TestListsAreNew: P2: those of Entries and the logs, spare room too.
func TestListsAreNew(t *testing.T) {
	m := machineOf(t, counting)
	for _, k := range []string{"a", "b", "c"} {
		m.run("f", k, 99)
	}
	first, _ := m.Entries("m")
	second, _ := m.Entries("m")
	before := slices.Clone(second)
	first = first[:cap(first)]
	for n := range first {
		first[n] = api.Entry{Key: "x", Value: "x"}
	}
	m.wantEntries("m", before...)
	if !slices.Equal(second, before) {
		t.Errorf("P2: %q, and then %q", before, second)
	}
	m.run("f", "b", 99)
	if !slices.Equal(second, before) {
		t.Errorf("P2: a run changed what was told: %q, and then %q", before, second)
	}
	r := m.run("f", "a", 99)
	log := r.Log[:cap(r.Log)]
	for n := range log {
		log[n] = 77
	}
	next := m.run("f", "a", 99)
	for n := range log {
		log[n] = 78
	}
	wantResult(t, next, api.Result{R0: 3, Input: "a", Log: []uint64{3}, Used: 13})
	for _, n := range next.Log[len(next.Log):cap(next.Log)] {
		if n != 0 {
			t.Errorf("P2: spare room holds %d", n)
		}
	}
}

// TestOrderOfObjects: P8: the machine is the same in whatever order its objects
// were linked.
func TestOrderOfObjects(t *testing.T) {
	list := []string{
		wantRight(t, lined("map m 1 1 2 / func a / mov r6, r1 / call z / mov r7, r0 / mov r2, r6 / mov r3, r6 / wide r1, map m / help put / mov r0, r7 / exit")),
		wantRight(t, lined("map n 1 1 2 / func z / mov r2, r1 / mov r3, r1 / wide r1, map n / help put / call k / exit")),
		wantRight(t, lined("func k / mov r0, 11 / exit")),
	}
	everyOrder(list, func(l []string) {
		i, e, _ := spool.Link(l...)
		if e != api.OK {
			t.Fatalf("P5: %d", e)
		}
		m := pairOf(t, i)
		wantResult(t, m.run("a", "q", 99), api.Result{R0: 11, Input: "q", Used: 17})
		m.wantEntries("m", api.Entry{Key: "q", Value: "q"})
		m.wantEntries("n", api.Entry{Key: "q", Value: "q"})
	})
}

func FuzzRun(f *testing.F) {
	f.Add("SPOL\x02\x00\x01\x01f\x01\x00"+exit, "input", 99)
	f.Add(image([]sized{{"m", 1, 1, 1}}, []fun{{"f", mapOf(0) + slot(193, 0, 0, 0, 1) + callOf(0) + exit}}), "", 5000)
	f.Add(one(slot(131, 0, 1, -1, 0)+slot(135, 10, 0, -8, 0)+slot(65, 1, 10, -3, 0)+exit), bytes32, -1)
	f.Fuzz(func(t *testing.T, image, input string, fuel int) {
		if !wantLoadOrNot(t, image) {
			return
		}
		m := pairOf(t, image)
		for _, name := range append(m.Functions(), "none") {
			m.run(name, input, fuel)
			m.run(name, input, api.MaxFuel)
		}
	})
}
