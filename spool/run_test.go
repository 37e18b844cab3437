package spool_test

import (
	"fmt"
	"slices"
	"strings"
	"testing"

	"spool/api"
	"spool/spool"
)

// pair: a machine and its model; each run of the one is held against the other.
type pair struct {
	*spool.Machine
	model *model
	t     *testing.T
}

// lined: lines are written with " / " between.
func lined(s string) string { return strings.ReplaceAll(s, " / ", "\n") }

// imageOfText: of one text, in pieces.
func imageOfText(t *testing.T, pieces ...string) string {
	t.Helper()
	i, e, at := spool.Link(wantRight(t, lined(strings.Join(pieces, " / "))))
	if e != api.OK {
		t.Fatalf("P5: Link of %q: %d, %d", pieces, e, at)
	}
	return i
}

func machineOf(t *testing.T, pieces ...string) *pair {
	t.Helper()
	return pairOf(t, imageOfText(t, pieces...))
}

func pairOf(t *testing.T, image string) *pair {
	t.Helper()
	m, ok := modelOf(image)
	loaded, e := spool.Load(image)
	if !ok || e != api.OK {
		t.Fatalf("P6: Load(%x): %d", image, e)
	}
	return &pair{loaded, m, t}
}

func sameResult(a, b api.Result) bool {
	return a.Trap == b.Trap && a.Func == b.Func && a.Slot == b.Slot && a.R0 == b.R0 && a.Input == b.Input && a.Used == b.Used && slices.Equal(a.Log, b.Log)
}

func wantResult(t *testing.T, got, want api.Result) {
	t.Helper()
	if !sameResult(got, want) {
		t.Errorf("P7: %+v, want %+v", got, want)
	}
}

// run: as the model runs, and leaves the maps.
func (p *pair) run(function, input string, fuel int) api.Result {
	p.t.Helper()
	got, want := p.Run(function, input, fuel), p.model.run(function, input, fuel)
	if !sameResult(got, want) {
		p.t.Errorf("P7: Run(%q, %q, %d) = %+v, want %+v", function, input, fuel, got, want)
	}
	for n, m := range p.model.maps {
		want := p.model.entries(n)
		if l, e := p.Entries(m.name); !slices.Equal(l, want) || e != api.OK {
			p.t.Errorf("P7: behind Run(%q, %q, %d): Entries(%q) = %q, %d, want %q", function, input, fuel, m.name, l, e, want)
		}
	}
	return got
}

func (p *pair) wantEntries(name string, want ...api.Entry) {
	p.t.Helper()
	if l, e := p.Entries(name); !slices.Equal(l, want) || e != api.OK {
		p.t.Errorf("P7: Entries(%q) = %q, %d, want %q", name, l, e, want)
	}
}

// beside: what the functions f of most tests may use.
const beside = "map m 1 2 3 / map n 1 2 3 / func self / mov r0, r1 / exit / func f / "

func runLines(t *testing.T, code, input string) api.Result {
	t.Helper()
	return machineOf(t, beside+code).run("f", input, api.MaxFuel)
}

// wantNumber: of the function f with these lines, and its last one `exit`.
func wantNumber(t *testing.T, code, input string, r0 uint64) {
	t.Helper()
	if r := runLines(t, code+" / exit", input); r.Trap != api.None || r.R0 != r0 || r.Func != "" || r.Slot != 0 {
		t.Errorf("P7: %q of %q: %+v, want R0 %d", code, input, r, r0)
	}
}

func wantTrap(t *testing.T, code, input string, trap api.Trap, slot int) {
	t.Helper()
	if r := runLines(t, code+" / exit", input); r.Trap != trap || r.R0 != 0 || r.Func != "f" || r.Slot != slot {
		t.Errorf("P7: %q of %q: %+v, want trap %d at slot %d", code, input, r, trap, slot)
	}
}

const (
	top   = 1 << 63
	minus = 1<<64 - 1 // -1
	low32 = 1<<32 - 1
)

type reckoned struct{ a, b, in64, in32 uint64 }

func reckonings() map[string][]reckoned {
	return map[string][]reckoned{
		"mov": {{1, 2, 2, 2}, {0, minus, minus, low32}, {7, 1<<32 + 5, 1<<32 + 5, 5}, {minus, 0, 0, 0}},
		"add": {{1, 2, 3, 3}, {minus, 2, 1, 1}, {low32, 1, 1 << 32, 0}, {1 << 32, 1 << 32, 1 << 33, 0}, {top, top, 0, 0}, {1<<32 + 2, minus, 1<<32 + 1, 1}},
		"sub": {{5, 3, 2, 2}, {3, 5, minus - 1, low32 - 1}, {1 << 32, 1, low32, low32}, {0, minus, 1, 1}, {0, top, top, 0}},
		"mul": {{6, 7, 42, 42}, {low32, low32, 0xfffffffe00000001, 1}, {top, 2, 0, 0}, {1 << 32, 1 << 32, 0, 0}, {minus, minus, 1, 1}, {minus, 5, minus - 4, low32 - 4}},
		"div": {{7, 2, 3, 3}, {minus - 6, 2, 0x7ffffffffffffffc, 0x7ffffffc}, {7, 0, 0, 0}, {7, 1 << 32, 0, 0}, {1 << 32, 2, 1 << 31, 0}, {minus, minus, 1, 1}, {5, minus, 0, 0}, {0, 0, 0, 0}, {top, minus, 0, 0}, {1<<32 + 8, 1<<32 + 2, 1, 4}},
		"mod": {{7, 4, 3, 3}, {minus - 6, 0, minus - 6, low32 - 6}, {1<<32 + 5, 1 << 32, 5, 5}, {1<<32 + 5, 0, 1<<32 + 5, 5}, {minus - 6, 10, 9, 9}, {0, 0, 0, 0}, {7, minus, 7, 7}, {1<<32 + 7, 1<<32 + 4, 3, 3}},
		"and": {{12, 10, 8, 8}, {minus, top + 1, top + 1, 1}, {low32, 1 << 32, 0, 0}, {1<<40 + 6, minus - 2, 1<<40 + 4, 4}},
		"or":  {{12, 10, 14, 14}, {top, 1, top + 1, 1}, {0, minus, minus, low32}, {1 << 32, 1 << 31, 3 << 31, 1 << 31}},
		"xor": {{12, 10, 6, 6}, {minus, minus, 0, 0}, {top + 3, 1, top + 2, 2}, {0, minus, minus, low32}},
		"lsh": {{1, 63, top, 1 << 31}, {1, 64, 1, 1}, {1, 31, 1 << 31, 1 << 31}, {1, 32, 1 << 32, 1}, {1, 33, 1 << 33, 2}, {1, minus, top, 1 << 31}, {3, 31, 3 << 31, 1 << 31}, {5, 0, 5, 5}, {1<<32 + 1, 1, 1<<33 + 2, 2}, {1, 65, 2, 2}, {1, 1 << 40, 1, 1}},
		"rsh": {{top, 63, 1, 0}, {minus, 64, minus, low32}, {minus, 31, 1<<33 - 1, 1}, {minus, 32, low32, low32}, {minus, 63, 1, 1}, {1 << 32, 1, 1 << 31, 0}, {top, 0, top, 0}, {8, 67, 1, 1}, {minus, minus, 1, 1}},
		"ash": {{top, 63, minus, 0}, {1 << 31, 31, 1, low32}, {1 << 31, 32, 0, 1 << 31}, {top, 64, top, 0}, {minus - 1, 1, minus, low32}, {1<<31 - 1, 31, 0, 0}, {1 << 62, 62, 1, 0}, {minus - 15, 2, minus - 3, low32 - 3}, {top, 1, 3 << 62, 0}, {1<<63 + 8, 3, 0xf<<60 + 1, 1}, {minus - 7, minus, minus, low32}},
	}
}

// TestReckoning: each op of two numbers, in its four forms.
func TestReckoning(t *testing.T) {
	all := reckonings()
	if len(all) != 12 {
		t.Fatal(len(all))
	}
	for word, l := range all {
		for _, c := range l {
			numbers := fmt.Sprintf("wide r0, %d / wide r7, %d / ", c.a, c.b)
			wantNumber(t, numbers+word+" r0, r7", "", c.in64)
			wantNumber(t, numbers+word+"32 r0, r7", "", c.in32)
			if n := int64(c.b); n >= -1<<31 && n < 1<<31 {
				wantNumber(t, numbers+fmt.Sprintf("%s r0, %d", word, n), "", c.in64)
				wantNumber(t, numbers+fmt.Sprintf("%s32 r0, %d", word, n), "", c.in32)
			}
		}
	}
	for _, c := range []reckoned{{5, 0, minus - 4, low32 - 4}, {0, 0, 0, 0}, {top, 0, top, 0}, {1 << 32, 0, minus - low32, 0}, {minus, 0, 1, 1}, {1<<32 + 1, 0, minus - 1<<32, low32}, {1 << 31, 0, minus - 1<<31 + 1, 1 << 31}} {
		number := fmt.Sprintf("wide r0, %d / ", c.a)
		wantNumber(t, number+"neg r0", "", c.in64)
		wantNumber(t, number+"neg32 r0", "", c.in32)
	}
	wantNumber(t, "mov r0, 9 / add r0, r0 / mul r0, r0 / sub r0, r0 / add r0, 3", "", 3)
	wantNumber(t, "mov r9, 6 / mov r8, r9 / add r8, r9 / mov r0, r8", "", 12)
}

// TestComparing: each jump that asks, in its two forms.
func TestComparing(t *testing.T) {
	pairs := [][2]uint64{{0, 0}, {minus, 1}, {1, minus}, {5, 5}, {4, 8}, {top, top - 1}, {top - 1, top}, {1 << 32, 0}, {minus, low32}, {3, 6}, {minus, minus}}
	words := map[string]string{
		"jeq":  "10010000001",
		"jne":  "01101111110",
		"jgt":  "01000101100",
		"jge":  "11010101101",
		"jlt":  "00101010010",
		"jle":  "10111010011",
		"jsgt": "00100011000",
		"jsge": "10110011001",
		"jslt": "01001100110",
		"jsle": "11011100111",
		"jset": "01110000111",
	}
	for word, l := range words {
		for n, x := range pairs {
			want := uint64(l[n] - '0')
			head := fmt.Sprintf("wide r3, %d / wide r4, %d / mov r0, 1 / ", x[0], x[1])
			tail := ", x / mov r0, 0 / x:"
			wantNumber(t, head+word+" r3, r4"+tail, "", want)
			if b := int64(x[1]); b >= -1<<31 && b < 1<<31 {
				wantNumber(t, head+fmt.Sprintf("%s r3, %d", word, b)+tail, "", want)
			}
		}
	}
}

// TestGoingOn: forward, back, over two slots, to oneself.
func TestGoingOn(t *testing.T) {
	wantNumber(t, "ja x / mov r0, 1 / exit / x: / mov r0, 2", "", 2)
	wantNumber(t, "ja x / y: / mov r0, 5 / exit / x: / wide r1, 9 / ja y", "", 5)
	wantNumber(t, "mov r1, 10 / x: / add r0, r1 / sub r1, 1 / wide r2, 7 / jne r1, 0, x", "", 55)
	wantNumber(t, "jeq r0, 0, x / x: / mov r0, 3", "", 3)
	wantTrap(t, "x: / ja x", "", api.Fuel, 0)
	r := machineOf(t, "func f / mov r1, 3 / x: / wide r2, 1 / add r0, r2 / sub r1, 1 / jsgt r1, 0, x / exit").run("f", "", 99)
	wantResult(t, r, api.Result{R0: 3, Used: 14})
}

const bytes32 = "\x01\x02\x03\x04\x05\x06\x07\x88\x09\x0a\x0b\x0c\x0d\x0e\x0f\x10\x11\x12\x13\x14\x15\x16\x17\x18\x19\x1a\x1b\x1c\x1d\x1e\x1f\xe0"

func TestLoads(t *testing.T) {
	wantNumber(t, "ld1 r0, [r1+7]", bytes32, 0x88)
	wantNumber(t, "ld2 r0, [r1+6]", bytes32, 0x8807)
	wantNumber(t, "ld4 r0, [r1+4]", bytes32, 0x88070605)
	wantNumber(t, "ld8 r0, [r1]", bytes32, 0x8807060504030201)
	for n, size := range []int{1, 2, 4, 8} {
		ld := "ld" + "1248"[n:n+1] + " r0, [r1"
		for _, have := range []int{0, 1, 7, 8, 31, 32} {
			for _, at := range []int{-9, -8, -1, 0, 1, have - size - 1, have - size, have - size + 1, have - 1, have, have + 1, 32767, -32768} {
				code := fmt.Sprintf("%s%+d]", ld, at)
				if at < 0 || at+size > have {
					wantTrap(t, code, bytes32[:have], api.Bounds, 0)
					continue
				}
				want := uint64(0)
				for k := range size {
					want += uint64(bytes32[at+k]) << (8 * k)
				}
				wantNumber(t, code, bytes32[:have], want)
			}
		}
	}
	wantNumber(t, "wide r0, -1 / ld1 r0, [r1]", "a", 'a')
	wantNumber(t, "ld1 r1, [r1+1] / mov r0, r1", "ab", 'b')
}

func TestStores(t *testing.T) {
	for _, c := range []struct{ code, want string }{
		{"st1 [r1], 0x4142", "Bbcdefghij"},
		{"st2 [r1+1], 0x4142", "aBAdefghij"},
		{"st4 [r1+6], 0x41424344", "abcdefDCBA"},
		{"st8 [r1+2], 0x41424344", "abDCBA\x00\x00\x00\x00"},
		{"st8 [r1], -2", "\xfe\xff\xff\xff\xff\xff\xff\xffij"},
		{"st4 [r1], -1", "\xff\xff\xff\xffefghij"},
		{"st2 [r1+8], -1", "abcdefgh\xff\xff"},
		{"st1 [r1+9], -1", "abcdefghi\xff"},
		{"wide r3, 0x4142434445464748 / st8 [r1], r3", "HGFEDCBAij"},
		{"wide r3, 0x4142434445464748 / st4 [r1+1], r3", "aHGFEfghij"},
		{"wide r3, 0x4142434445464748 / st2 [r1+1], r3", "aHGdefghij"},
		{"wide r3, 0x4142434445464748 / st1 [r1+1], r3", "aHcdefghij"},
		{"add r1, 10 / st8 [r1-8], r2", "ab\x0a\x00\x00\x00\x00\x00\x00\x00"},
	} {
		r := runLines(t, c.code+" / exit", "abcdefghij")
		if r.Trap != api.None || r.Input != c.want {
			t.Errorf("P7: %q: %+v, want the input %q", c.code, r, c.want)
		}
	}
	for n, size := range []int{1, 2, 4, 8} {
		st := "st" + "1248"[n:n+1] + " [r1"
		for _, have := range []int{0, 1, 8, 32} {
			for _, at := range []int{-1, -8, have - size + 1, have, 32767, -32768} {
				if at >= 0 && at+size <= have {
					continue
				}
				for _, s := range []string{"7", "r2"} {
					r := runLines(t, fmt.Sprintf("%s%+d], %s / exit", st, at, s), bytes32[:have])
					wantResult(t, r, api.Result{Trap: api.Bounds, Func: "f", Input: bytes32[:have], Used: 1})
				}
			}
		}
	}
}

// TestOffsets: round at 64 bits, and without a trap as long as nothing is
// loaded or stored.
func TestOffsets(t *testing.T) {
	wantNumber(t, "wide r3, 0x8000000000000000 / add r1, r3 / add r1, r3 / ld1 r0, [r1]", "a", 'a')
	wantNumber(t, "wide r3, 0x8000000000000000 / sub r1, r3 / add r1, r3 / ld1 r0, [r1]", "a", 'a')
	wantNumber(t, "wide r3, 0xffffffffffffffff / add r1, r3 / ld1 r0, [r1+1]", "a", 'a')
	wantNumber(t, "wide r3, 0xffffffffffffffff / sub r1, r3 / ld1 r0, [r1-1]", "a", 'a')
	wantNumber(t, "add r1, 2147483647 / sub r1, 2147483647 / ld1 r0, [r1]", "a", 'a')
	wantNumber(t, "add r1, -2147483648 / sub r1, -2147483648 / ld1 r0, [r1]", "a", 'a')
	wantNumber(t, "add r1, 32769 / ld1 r0, [r1-32768]", "ab", 'b')
	wantNumber(t, "sub r1, 32767 / ld1 r0, [r1+32767]", "a", 'a')
	wantNumber(t, "wide r3, 0x7fffffffffffffff / add r1, r3 / mov r0, 4", "", 4)
	for _, c := range []struct{ by, at string }{{"0x7fffffffffffffff", "+0"}, {"0x7fffffffffffffff", "+1"}, {"0x8000000000000000", "+0"}, {"0x8000000000000000", "-1"}, {"0xfffffffffffffff8", "+0"}, {"0xffffffffffffffff", "+0"}, {"0x100000000", "+0"}, {"0x7ffffffffffffff9", "+7"}, {"0x100000000", "-1"}} {
		wantTrap(t, "wide r3, "+c.by+" / add r1, r3 / ld8 r0, [r1"+c.at+"]", bytes32, api.Bounds, 3)
		wantTrap(t, "wide r3, "+c.by+" / add r1, r3 / st1 [r1"+c.at+"], 1", bytes32, api.Bounds, 3)
	}
}

func TestStacks(t *testing.T) {
	for n := 8; n <= 64; n += 8 {
		wantNumber(t, fmt.Sprintf("ld8 r0, [r10-%d]", n), "", 0)
	}
	wantNumber(t, "st8 [r10-64], -1 / st8 [r10-8], 5 / ld8 r0, [r10-64] / add r0, 3 / ld8 r1, [r10-8] / add r0, r1", "", 7)
	wantNumber(t, "st4 [r10-4], -2 / ld8 r0, [r10-8]", "", 0xfffffffe00000000)
	wantNumber(t, "mov r3, r10 / sub r3, 64 / st1 [r3], 7 / ld1 r0, [r10-64]", "", 7)
	for _, s := range []string{"ld1 r0, [r10]", "ld1 r0, [r10-65]", "ld8 r0, [r10-65]", "ld8 r0, [r10-7]", "ld2 r0, [r10-1]", "st1 [r10], 1", "st1 [r10-65], 1", "st8 [r10-7], r2", "st4 [r10-3], 1"} {
		wantTrap(t, s, bytes32, api.Bounds, 0)
	}
	m := machineOf(t, "func f / ld8 r0, [r10-8] / st8 [r10-8], 9 / exit")
	for range 3 {
		wantResult(t, m.run("f", "", 99), api.Result{Used: 3})
	}
}

// TestTags: each op with values of the wrong sort; r1 is a pointer, r2 a
// number, r3 a map.
func TestTags(t *testing.T) {
	const head = "wide r3, map m / "
	for word := range reckonings() {
		for _, wrong := range []string{"r1", "r3"} {
			if word != "mov" {
				wantTrap(t, head+word+" r2, "+wrong, "", api.Tag, 2)
				wantTrap(t, head+word+"32 "+wrong+", r2", "", api.Tag, 2)
				wantTrap(t, head+word+"32 "+wrong+", 1", "", api.Tag, 2)
				wantTrap(t, head+word+" r3, r2", "", api.Tag, 2)
				wantTrap(t, head+word+" r3, 1", "", api.Tag, 2)
				wantTrap(t, head+word+" r1, "+wrong, "", api.Tag, 2)
				wantTrap(t, head+word+" r3, "+wrong, "", api.Tag, 2)
			}
			wantTrap(t, head+word+"32 r2, "+wrong, "", api.Tag, 2)
			wantTrap(t, head+word+"32 "+wrong+", "+wrong, "", api.Tag, 2)
		}
		if word != "mov" && word != "add" && word != "sub" {
			wantTrap(t, head+word+" r1, r2", "", api.Tag, 2)
			wantTrap(t, head+word+" r1, 1", "", api.Tag, 2)
		}
	}
	for _, wrong := range []string{"r1", "r3"} {
		wantTrap(t, head+"neg "+wrong, "", api.Tag, 2)
		wantTrap(t, head+"neg32 "+wrong, "", api.Tag, 2)
		wantTrap(t, head+"mov r0, "+wrong, "", api.Tag, 3)
		for _, word := range strings.Fields("jgt jge jlt jle jsgt jsge jslt jsle jset") {
			wantTrap(t, head+word+" "+wrong+", r2, x / x:", "", api.Tag, 2)
			wantTrap(t, head+word+" r2, "+wrong+", x / x:", "", api.Tag, 2)
			wantTrap(t, head+word+" "+wrong+", "+wrong+", x / x:", "", api.Tag, 2)
			wantTrap(t, head+word+" "+wrong+", 0, x / x:", "", api.Tag, 2)
		}
		for _, size := range []string{"1", "2", "4", "8"} {
			wantTrap(t, head+"st"+size+" [r1], "+wrong, bytes32, api.Tag, 2)
			wantTrap(t, head+"st"+size+" [r1-1], "+wrong, bytes32, api.Tag, 2)
			wantTrap(t, head+"st"+size+" [r1+32], "+wrong, bytes32, api.Tag, 2)
		}
	}
	for _, wrong := range []string{"r2", "r3"} {
		for _, size := range []string{"1", "2", "4", "8"} {
			wantTrap(t, head+"ld"+size+" r0, ["+wrong+"]", bytes32, api.Tag, 2)
			wantTrap(t, head+"st"+size+" ["+wrong+"], r2", bytes32, api.Tag, 2)
			wantTrap(t, head+"st"+size+" ["+wrong+"], 1", bytes32, api.Tag, 2)
		}
	}
	wantTrap(t, "mov r0, r10", "", api.Tag, 1)
}

// TestValuesMove: mov, and what a register was ahead of it.
func TestValuesMove(t *testing.T) {
	wantNumber(t, "mov32 r1, 5 / mov r0, r1", "", 5)
	wantNumber(t, "mov r1, -5 / add r1, 6 / mov r0, r1", "", 1)
	wantNumber(t, "wide r1, map m / mov32 r1, r2 / mov r0, r1", "ab", 2)
	wantNumber(t, "mov r9, r1 / mov r1, 0 / ld1 r0, [r9]", "a", 'a')
	wantNumber(t, "wide r1, map m / wide r1, 77 / mov r0, r1", "", 77)
	wantNumber(t, "wide r0, map m / mov r0, 1", "", 1)
}

func TestSameValues(t *testing.T) {
	for _, c := range []struct {
		head, a, b string
		same       bool
	}{
		{"", "r1", "r1", true},
		{"mov r3, r1 / add r3, 1", "r1", "r3", false},
		{"mov r3, r1 / add r3, 1 / sub r3, 1", "r1", "r3", true},
		{"mov r3, r1 / add r3, 64", "r3", "r10", false},
		{"mov r3, r10", "r10", "r3", true},
		{"", "r10", "r1", false},
		{"", "r1", "r2", false},
		{"", "r1", "0", false},
		{"", "r10", "64", false},
		{"wide r3, map m / wide r4, map m", "r3", "r4", true},
		{"wide r3, map m / wide r4, map n", "r3", "r4", false},
		{"wide r3, map m", "r3", "0", false},
		{"wide r3, map n", "r3", "1", false},
		{"wide r3, map m", "r3", "r1", false},
		{"wide r3, map m", "r0", "r3", false},
		{"", "r2", "0", true},
		{"", "r0", "r9", true},
	} {
		head := strings.TrimPrefix(c.head+" / mov r0, 1 / ", " / ")
		yes, no := uint64(0), uint64(1)
		if c.same {
			yes, no = 1, 0
		}
		tail := " " + c.a + ", " + c.b + ", x / mov r0, 0 / x:"
		if !strings.Contains(c.a+c.b, "r0") {
			wantNumber(t, head+"jeq"+tail, "", yes)
			wantNumber(t, head+"jne"+tail, "", no)
		}
	}
}

// TestFirstRegisters: r1, r2 and r10; all others the number 0.
func TestFirstRegisters(t *testing.T) {
	wantNumber(t, "mov r0, r2", bytes32, 32)
	wantNumber(t, "mov r0, r2", "", 0)
	wantNumber(t, "add r0, r3 / add r0, r4 / add r0, r5 / add r0, r6 / add r0, r7 / add r0, r8 / add r0, r9", bytes32, 0)
	for _, r := range strings.Fields("r0 r3 r4 r5 r6 r7 r8 r9") {
		wantNumber(t, "jeq "+r+", 0, x / mov r0, 7 / exit / x: / mov r0, 8", "a", 8)
	}
	for n := range 70 {
		input := strings.Repeat("ab", 40)[:n]
		r := runLines(t, "mov r0, r2 / exit", input)
		wantResult(t, r, api.Result{R0: uint64(min(n, 32)), Input: input[:min(n, 32)], Used: 2})
	}
	wantTrap(t, "ld1 r0, [r1+32]", bytes32+"x", api.Bounds, 0)
	wantNumber(t, "ld1 r0, [r1+31]", bytes32+"x", 0xe0)
	r := runLines(t, "st1 [r1+31], 65 / exit", bytes32+"xyz")
	wantResult(t, r, api.Result{Input: bytes32[:31] + "A", Used: 2})
}

// TestRunExamples: the document's.
func TestRunExamples(t *testing.T) {
	wantResult(t, runLines(t, "mov r0, 2 / mul r0, 21 / exit", ""), api.Result{R0: 42, Used: 3})
	wantTrap(t, "ld8 r0, [r1+0]", "1234567", api.Bounds, 0)
	wantNumber(t, "ld8 r0, [r1+0]", "\x01\x00\x00\x00\x00\x00\x00\x80", top+1)
	wantTrap(t, "mov r0, r1", "", api.Tag, 1)
}

func TestWides(t *testing.T) {
	for _, n := range []uint64{0, 1, low32, 1 << 31, 1 << 32, top, minus, 0x8000000080000000, 0x0123456789abcdef} {
		wantNumber(t, fmt.Sprintf("wide r0, %d", n), "", n)
	}
	wantNumber(t, "wide r0, -1", "", minus)
	wantNumber(t, "wide r0, -2147483648", "", minus-1<<31+1)
}
