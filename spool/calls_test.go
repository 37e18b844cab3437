package spool_test

import (
	"fmt"
	"strings"
	"testing"

	"spool/api"
)

// TestCalledRegisters: what a called function has, and what is left when it
// comes back.
func TestCalledRegisters(t *testing.T) {
	m := machineOf(t,
		"func sum / mov r0, r1 / add r0, r2 / add r0, r3 / add r0, r4 / add r0, r5 / exit",
		"func rest / add r0, r6 / add r0, r7 / add r0, r8 / add r0, r9 / exit",
		"func spoil / mov r1, 9 / mov r2, 9 / mov r3, 9 / mov r4, 9 / mov r5, 9 / mov r6, 9 / mov r7, 9 / mov r8, 9 / mov r9, 9 / st8 [r10-8], 9 / mov r0, 100 / exit",
		"func nothing / exit",
		"func given / mov r1, 1 / mov r2, 2 / mov r3, 4 / mov r4, 8 / mov r5, 16 / call sum / exit",
		"func hidden / mov r0, 1 / mov r6, 2 / mov r7, 3 / mov r8, 4 / mov r9, 5 / call rest / exit",
		"func kept / mov r6, 1 / mov r7, 2 / mov r8, 4 / mov r9, 8 / st8 [r10-8], 16 / call spoil / add r0, r6 / add r0, r7 / add r0, r8 / add r0, r9 / ld8 r1, [r10-8] / add r0, r1 / exit",
		"func zeros / mov r1, 9 / mov r2, 9 / mov r3, 9 / mov r4, 9 / mov r5, 9 / mov r0, 5 / call nothing / add r0, r1 / add r0, r2 / add r0, r3 / add r0, r4 / add r0, r5 / exit",
		"func numbers / call nothing / jeq r1, 0, x / mov r0, 1 / exit / x: / mov r0, 2 / exit")
	for _, c := range []struct {
		function string
		r0       uint64
		used     int
	}{{"given", 31, 13}, {"hidden", 0, 12}, {"kept", 131, 25}, {"zeros", 0, 14}, {"numbers", 2, 5}, {"nothing", 0, 1}} {
		wantResult(t, m.run(c.function, "", 99), api.Result{R0: c.r0, Used: c.used})
	}
}

// TestCalledValues: pointers and maps go in and come out.
func TestCalledValues(t *testing.T) {
	m := machineOf(t,
		"map m 1 1 1",
		"func same / mov r0, r1 / exit",
		"func write / st1 [r1], 66 / exit",
		"func pick / wide r0, map m / exit",
		"func input / call same / ld1 r0, [r0] / exit",
		"func stack / st1 [r10-8], 77 / mov r1, r10 / sub r1, 8 / call same / ld1 r0, [r0] / exit",
		"func up / mov r6, r1 / call write / mov r1, r10 / sub r1, 1 / call write / ld1 r0, [r6] / ld1 r1, [r10-1] / add r0, r1 / exit",
		"func maps / call pick / wide r6, map m / jeq r0, r6, x / exit / x: / mov r0, 1 / exit",
		"func back / call same / exit",
		"func chosen / call pick / exit")
	wantResult(t, m.run("input", "a", 99), api.Result{R0: 'a', Input: "a", Used: 5})
	wantResult(t, m.run("stack", "", 99), api.Result{R0: 77, Used: 8})
	wantResult(t, m.run("up", "a", 99), api.Result{R0: 132, Input: "B", Used: 13})
	wantResult(t, m.run("maps", "", 99), api.Result{R0: 1, Used: 7})
	wantResult(t, m.run("back", "", 99), api.Result{Trap: api.Tag, Func: "back", Slot: 1, Used: 4})
	wantResult(t, m.run("chosen", "", 99), api.Result{Trap: api.Tag, Func: "chosen", Slot: 1, Used: 4})
	wantResult(t, m.run("pick", "", 99), api.Result{Trap: api.Tag, Func: "pick", Slot: 2, Used: 2})
}

// TestStacksApart: each call has its own, 0 at first, and dead when it is back.
func TestStacksApart(t *testing.T) {
	m := machineOf(t,
		"func own / mov r0, r10 / sub r0, 8 / ld8 r1, [r0] / st8 [r0], 5 / add r0, r1 / exit",
		"func read / call own / ld1 r0, [r0] / exit",
		"func write / call own / st1 [r0], 1 / exit",
		"func tag / call own / st1 [r0], r10 / exit",
		"func key / call own / mov r2, r0 / wide r1, map m / help get / exit / map m 1 1 1",
		"func twice / call own / mov r6, r0 / call own / jeq r0, r6, x / mov r0, 1 / exit / x: / mov r0, 2 / exit",
		"func still / call own / mov r6, r0 / jeq r6, r0, x / mov r0, 1 / exit / x: / mov r0, 2 / exit",
		"func moved / call own / add r0, 1 / sub r0, 1 / mov r0, 3 / exit",
		"func fresh / mov r6, r10 / st8 [r10-8], 7 / call own / jeq r0, r6, x / ld8 r0, [r10-8] / exit / x: / mov r0, 9 / exit",
		"func later / call own / mov r6, r0 / call down / exit",
		"func down / ld8 r0, [r10-8] / call own / exit",
		"func inner / mov r1, r10 / sub r1, 8 / st8 [r1], 3 / call use / mov r6, r0 / ld8 r0, [r10-8] / exit",
		"func use / call own / ld8 r0, [r10-8] / exit")
	wantResult(t, m.run("read", "", 99), api.Result{Trap: api.Bounds, Func: "read", Slot: 1, Used: 8})
	wantResult(t, m.run("write", "", 99), api.Result{Trap: api.Bounds, Func: "write", Slot: 1, Used: 8})
	wantResult(t, m.run("tag", "", 99), api.Result{Trap: api.Tag, Func: "tag", Slot: 1, Used: 8})
	wantResult(t, m.run("key", "", 99), api.Result{Trap: api.Bounds, Func: "key", Slot: 4, Used: 10})
	wantResult(t, m.run("twice", "", 99), api.Result{R0: 1, Used: 18})
	wantResult(t, m.run("still", "", 99), api.Result{R0: 2, Used: 11})
	wantResult(t, m.run("moved", "", 99), api.Result{R0: 3, Used: 11})
	wantResult(t, m.run("fresh", "", 99), api.Result{R0: 7, Used: 12})
	m.run("later", "", 99)
	wantResult(t, m.run("inner", "", 99), api.Result{R0: 3, Used: 16})
	wantResult(t, m.run("own", "", 99), api.Result{Trap: api.Tag, Func: "own", Slot: 5, Used: 6})
}

// TestDepth: MaxDepth calls in one another, and one more.
func TestDepth(t *testing.T) {
	text := ""
	for n := range 9 {
		text += fmt.Sprintf("func c%d / mov r6, %d / call c%d / add r0, r6 / exit / ", n, n, n+1)
	}
	m := machineOf(t, text+"func c9 / mov r0, 100 / exit", "func deep / add r6, 1 / call deep / exit", "func loop / mov r6, 50 / x: / call c9 / sub r6, 1 / jne r6, 0, x / exit")
	wantResult(t, m.run("c2", "", 99), api.Result{R0: 100 + 2 + 3 + 4 + 5 + 6 + 7 + 8, Used: 7*4 + 2})
	wantResult(t, m.run("c1", "", 99), api.Result{Trap: api.Depth, Func: "c8", Slot: 1, Used: 16})
	wantResult(t, m.run("c0", "", 99), api.Result{Trap: api.Depth, Func: "c7", Slot: 1, Used: 16})
	wantResult(t, m.run("deep", "x", 99), api.Result{Trap: api.Depth, Func: "deep", Slot: 1, Input: "x", Used: 16})
	wantResult(t, m.run("deep", "", 16), api.Result{Trap: api.Depth, Func: "deep", Slot: 1, Used: 16})
	wantResult(t, m.run("deep", "", 15), api.Result{Trap: api.Fuel, Func: "deep", Slot: 1, Used: 15})
	wantResult(t, m.run("loop", "", 999), api.Result{R0: 100, Used: 1 + 50*5 + 1})
}

func TestFuel(t *testing.T) {
	m := machineOf(t, "func f / x: / add r0, 1 / ja x", "func g / mov r0, 3 / wide r1, 5 / call h / exit", "func h / st1 [r2], 1 / exit", "func i / mov r6, r1 / st1 [r6], 65 / mov r1, 7 / help log / st1 [r6], 66 / mov r1, 8 / help log / exit")
	for fuel, used := range map[int]int{0: 0, 1: 1, 2: 2, 7: 7, 4999: 4999, 5000: 5000, 5001: 5000, 1 << 62: 5000, 1<<63 - 1: 5000, -1: 0, -5000: 0, -1 << 63: 0} {
		wantResult(t, m.run("f", "in", fuel), api.Result{Trap: api.Fuel, Func: "f", Slot: used % 2, Input: "in", Used: used})
	}
	for fuel, slot := range map[int]int{0: 0, 1: 1, 2: 3} {
		wantResult(t, m.run("g", "", fuel), api.Result{Trap: api.Fuel, Func: "g", Slot: slot, Used: fuel})
	}
	wantResult(t, m.run("g", "", 3), api.Result{Trap: api.Fuel, Func: "h", Used: 3})
	wantResult(t, m.run("g", "", 4), api.Result{Trap: api.Tag, Func: "h", Used: 4})
	for fuel, input := range []string{"xx", "xx", "Ax", "Ax", "Ax", "Bx", "Bx", "Bx"} {
		want := api.Result{Trap: api.Fuel, Func: "i", Slot: fuel, Input: input, Used: fuel}
		if fuel >= 4 {
			want.Log = append(want.Log, 7)
		}
		if fuel >= 7 {
			want.Log = append(want.Log, 8)
		}
		wantResult(t, m.run("i", "xx", fuel), want)
	}
	wantResult(t, m.run("i", "xx", 8), api.Result{Input: "Bx", Log: []uint64{7, 8}, Used: 8})
	whole := machineOf(t, "func f / mov r1, 1666 / x: / sub r1, 1 / add r0, 1 / jne r1, 0, x / exit", "func g / mov r0, r2 / jeq r2, 0, y / ja y / y: / mov r1, 1666 / x: / sub r1, 1 / add r0, 1 / jne r1, 0, x / exit")
	wantResult(t, whole.run("f", "", 5000), api.Result{R0: 1666, Used: 5000})
	wantResult(t, whole.run("f", "", 4999), api.Result{Trap: api.Fuel, Func: "f", Slot: 4, Used: 4999})
	wantResult(t, whole.run("g", "", 9999), api.Result{Trap: api.Fuel, Func: "g", Slot: 6, Used: 5000})
}

func TestLog(t *testing.T) {
	m := machineOf(t, "func f / mov r6, r2 / x: / jeq r6, 0, y / mov r1, r6 / help log / sub r6, 1 / ja x / y: / exit", "func g / mov r1, 1 / mov r2, 2 / mov r3, 3 / mov r4, 4 / mov r5, 5 / mov r6, 6 / mov r0, 9 / help log / add r0, r1 / add r0, r2 / add r0, r3 / add r0, r4 / add r0, r5 / add r0, r6 / exit", "func many / mov r6, 21 / x: / wide r1, -1 / call tell / sub r6, 1 / jne r6, 0, x / exit", "func tell / help log / exit", "func tags / mov r6, 20 / x: / mov r1, r6 / help log / sub r6, 1 / jne r6, 0, x / mov r1, r10 / help log / exit", "func full / mov r6, 20 / x: / mov r1, r6 / help log / sub r6, 1 / jne r6, 0, x / exit")
	for n := range 25 {
		var want []uint64
		for k := range min(n, 20) {
			want = append(want, uint64(n-k))
		}
		input := strings.Repeat("x", n)
		if n <= 20 {
			wantResult(t, m.run("f", input, 999), api.Result{Input: input, Log: want, Used: 3 + 5*n})
		} else {
			wantResult(t, m.run("f", input, 999), api.Result{Trap: api.Log, Func: "f", Slot: 3, Input: input, Log: want, Used: 1 + 5*20 + 3})
		}
	}
	wantResult(t, m.run("g", "", 99), api.Result{R0: 6, Log: []uint64{1}, Used: 15})
	all := make([]uint64, 20)
	for n := range all {
		all[n] = minus
	}
	wantResult(t, m.run("many", "", 999), api.Result{Trap: api.Log, Func: "tell", Log: all, Used: 1 + 20*6 + 3})
	for n := range all {
		all[n] = uint64(20 - n)
	}
	wantResult(t, m.run("full", "", 999), api.Result{Log: all, Used: 82})
	wantResult(t, m.run("tags", "", 999), api.Result{Trap: api.Tag, Func: "tags", Slot: 6, Log: all, Used: 83})
	wantTrap(t, "help log", "", api.Tag, 0)
	wantTrap(t, "wide r1, map m / help log", "", api.Tag, 2)
}

// TestNoFunction: and what else there is nothing of.
func TestNoFunction(t *testing.T) {
	m := machineOf(t, "map m 1 1 1 / func f / mov r0, 7 / exit")
	for _, name := range []string{"", "g", "m", "F", "ff", "f ", "f\x00", "\xff", strings.Repeat("f", 1000)} {
		r := m.run(name, "input", 99)
		wantResult(t, r, api.Result{})
		if r.Log != nil && len(r.Log) > 0 {
			t.Errorf("P7: %+v", r)
		}
	}
	for _, name := range []string{"", "f", "n", "M", "mm", "m\x00", strings.Repeat("m", 1000)} {
		if l, e := m.Entries(name); len(l) != 0 || e != api.ErrNone {
			t.Errorf("P7: Entries(%q) = %q, %d", name, l, e)
		}
	}
	m.wantEntries("m")
	none := pairOf(t, "SPOL\x02\x00\x00")
	wantResult(t, none.run("f", "x", 9), api.Result{})
}

// keyed: the helpers, each with the key (2 bytes) and the value (3 bytes) of
// the input. What is in r1 to r5 at last is told too.
const keyed = "map m 2 3 3 / map other 2 3 3 / " +
	"func put / mov r2, r1 / mov r3, r1 / add r3, 2 / wide r1, map m / help put / add r0, r1 / add r0, r2 / add r0, r3 / add r0, r4 / add r0, r5 / exit / " +
	"func get / mov r2, r1 / mov r4, 9 / mov r5, 9 / wide r1, map m / help get / jeq r0, 0, no / add r1, r2 / add r1, r3 / add r1, r4 / add r1, r5 / ld2 r2, [r0] / ld1 r0, [r0+2] / lsh r0, 16 / or r0, r2 / add r0, r1 / exit / no: / mov r0, -1 / exit / " +
	"func del / mov r2, r1 / mov r3, 9 / mov r4, 9 / mov r5, 9 / wide r1, map m / help del / add r0, r1 / add r0, r2 / add r0, r3 / add r0, r4 / add r0, r5 / exit / " +
	"func set / mov r6, r1 / mov r2, r1 / wide r1, map m / help get / ld1 r7, [r6+2] / st1 [r0+1], r7 / mov r0, 0 / exit"

func TestMaps(t *testing.T) {
	m := machineOf(t, keyed)
	other := machineOf(t, keyed)
	value := func(s string) uint64 { return uint64(s[0]) | uint64(s[1])<<8 | uint64(s[2])<<16 }
	for _, c := range []struct {
		function, input string
		r0              uint64
	}{
		{"get", "aa", minus}, {"del", "aa", 1},
		{"put", "bb123", 0}, {"get", "bb", value("123")}, {"get", "bc", minus}, {"get", "cb", minus},
		{"put", "aa456", 0}, {"put", "\xff\x00789", 0}, {"put", "ccxyz", 1}, {"get", "cc", minus},
		{"put", "aa\x00\xff\x80", 0}, {"get", "aa", value("\x00\xff\x80")},
		{"set", "bbX", 0}, {"get", "bb", value("1X3")},
		{"del", "cc", 1}, {"del", "bb", 0}, {"del", "bb", 1}, {"get", "bb", minus},
		{"put", "ccxyz", 0}, {"put", "bb000", 1}, {"get", "cc", value("xyz")}, {"get", "\xff\x00", value("789")},
	} {
		if r := m.run(c.function, c.input, 99); r.R0 != c.r0 || r.Trap != api.None {
			t.Errorf("P7: %s of %q: %+v, want %d", c.function, c.input, r, c.r0)
		}
	}
	m.wantEntries("m", api.Entry{Key: "aa", Value: "\x00\xff\x80"}, api.Entry{Key: "cc", Value: "xyz"}, api.Entry{Key: "\xff\x00", Value: "789"})
	m.wantEntries("other")
	other.wantEntries("m")
	for _, name := range []string{"aa", "cc", "\xff\x00"} {
		m.run("del", name, 99)
	}
	m.wantEntries("m")
}

// TestMapsSizes: each size of keys and values, and as many entries as may be.
func TestMapsSizes(t *testing.T) {
	for key := 1; key <= 8; key++ {
		for _, value := range []int{1, 2, 7, 8, 15, 16} {
			for most := 1; most <= 8; most += 1 + (key+value)%3 {
				m := machineOf(t, fmt.Sprintf("map m %d %d %d / func f / mov r2, r1 / mov r3, r1 / add r3, %d / wide r1, map m / help put / exit", key, value, most, key))
				var want []api.Entry
				for n := range most + 2 {
					k := string(rune('a'+n)) + strings.Repeat("k", key-1)
					v := strings.Repeat("v", value-1) + string(rune('0'+n))
					full := uint64(1)
					if n < most {
						want = append(want, api.Entry{Key: k, Value: v})
						full = 0
					}
					wantResult(t, m.run("f", k+v, 9), api.Result{R0: full, Input: k + v, Used: 6})
					wantResult(t, m.run("f", (k + v)[:key+value-1], 9), api.Result{Trap: api.Bounds, Func: "f", Slot: 5, Input: (k + v)[:key+value-1], Used: 5})
				}
				m.wantEntries("m", want...)
			}
		}
	}
}

// TestEntriesRise: byte by byte, whatever the order in which they came.
func TestEntriesRise(t *testing.T) {
	keys := []string{"\x00\x00", "\x00\x01", "\x01\x00", "ab", "b\x00", "\x7f\xff", "\x80\x00", "\xff\xff"}
	for turn := range 24 {
		m := machineOf(t, "map m 2 1 8 / func f / mov r2, r1 / mov r3, r1 / add r3, 2 / wide r1, map m / help put / exit")
		var want []api.Entry
		for n := range keys {
			m.run("f", keys[(n*[]int{1, 3, 5, 7}[turn%4]+turn)%8]+"v", 9)
		}
		for _, k := range keys {
			want = append(want, api.Entry{Key: k, Value: "v"})
		}
		m.wantEntries("m", want...)
	}
}

// TestValuesRegions: they stay when put again, and are dead when deleted, also
// if the key comes back.
func TestValuesRegions(t *testing.T) {
	const head = "mov r6, r1 / mov r2, r1 / mov r3, r1 / add r3, 1 / wide r1, map m / help put / mov r2, r6 / wide r1, map m / help get / mov r7, r0 / mov r2, r6 / "
	const put = "mov r3, r6 / add r3, 3 / wide r1, map m / help put / "
	const del = "wide r1, map m / help del / "
	wantNumber(t, head+put+"ld2 r0, [r7]", "k1234", '3'+'4'<<8)
	wantTrap(t, head+del+"ld1 r0, [r7]", "k1234", api.Bounds, 16)
	wantTrap(t, head+del+"st1 [r7], 1", "k1234", api.Bounds, 16)
	wantTrap(t, head+del+"st1 [r7], r7", "k1234", api.Tag, 16)
	wantTrap(t, head+del+"mov r2, r6 / "+put+"ld1 r0, [r7]", "k1234", api.Bounds, 22)
	wantNumber(t, head+del+"mov r2, r6 / "+put+"mov r2, r6 / wide r1, map m / help get / jeq r0, r7, x / ld2 r0, [r0] / exit / x: / mov r0, 1", "k1234", '3'+'4'<<8)
	wantNumber(t, head+"wide r1, map m / help get / jeq r0, r7, x / mov r0, 0 / exit / x: / mov r0, 1", "k1234", 1)
	wantNumber(t, head+del+"jeq r7, r7, x / exit / x: / mov r0, 5", "k1234", 5)
	wantNumber(t, head+"ld2 r0, [r7] / st1 [r6], 65 / st1 [r6+1], 65 / ld2 r1, [r7] / sub r0, r1", "k1234", 0)
	for _, c := range []struct {
		at   string
		ok   bool
		code string
	}{{"+0", true, "ld2"}, {"+1", false, "ld2"}, {"+1", true, "ld1"}, {"+2", false, "ld1"}, {"-1", false, "ld1"}, {"+0", false, "ld4"}, {"+0", false, "ld8"}} {
		code := head + c.code + " r0, [r7" + c.at + "] / mov r0, 1"
		if c.ok {
			wantNumber(t, code, "k1234", 1)
		} else {
			wantTrap(t, code, "k1234", api.Bounds, 13)
		}
	}
}

// TestPutFromMaps: keys and values that are in maps themselves, the one that is
// written too.
func TestPutFromMaps(t *testing.T) {
	m := machineOf(t, "map m 1 2 3 / map w 1 4 2",
		"func first / mov r2, r1 / mov r3, r1 / add r3, 1 / wide r1, map m / help put / exit",
		"func wide / mov r2, r1 / mov r3, r1 / add r3, 1 / wide r1, map w / help put / exit",
		"func itself / mov r6, r1 / mov r2, r1 / wide r1, map m / help get / mov r3, r0 / mov r2, r6 / wide r1, map m / help put / exit",
		"func key / mov r6, r1 / mov r2, r1 / wide r1, map m / help get / mov r2, r0 / mov r3, r0 / wide r1, map m / help put / exit",
		"func out / mov r2, r1 / wide r1, map m / help get / mov r2, r0 / wide r1, map m / help del / exit",
		"func part / mov r6, r1 / mov r2, r1 / wide r1, map w / help get / mov r3, r0 / add r3, 1 / mov r2, r6 / wide r1, map m / help put / exit",
		"func past / mov r6, r1 / mov r2, r1 / wide r1, map w / help get / mov r3, r0 / add r3, 3 / mov r2, r6 / wide r1, map m / help put / exit",
		"func inner / mov r6, r1 / mov r2, r1 / wide r1, map w / help get / mov r3, r0 / add r3, 1 / mov r2, r6 / wide r1, map w / help put / exit")
	want := func(l ...api.Entry) { t.Helper(); m.wantEntries("m", l...) }
	m.run("first", "kk1", 99)
	want(api.Entry{Key: "k", Value: "k1"})
	m.run("itself", "k", 99)
	want(api.Entry{Key: "k", Value: "k1"})
	wantResult(t, m.run("key", "k", 99), api.Result{Input: "k", Used: 9})
	want(api.Entry{Key: "k", Value: "k1"})
	m.run("first", "kj2", 99)
	m.run("key", "k", 99)
	want(api.Entry{Key: "j", Value: "j2"}, api.Entry{Key: "k", Value: "j2"})
	wantResult(t, m.run("out", "k", 99), api.Result{Input: "k", Used: 7})
	want(api.Entry{Key: "k", Value: "j2"})
	m.run("wide", "kwxyz", 99)
	m.run("part", "k", 99)
	want(api.Entry{Key: "k", Value: "xy"})
	wantResult(t, m.run("past", "k", 99), api.Result{Trap: api.Bounds, Func: "past", Slot: 10, Input: "k", Used: 9})
	wantResult(t, m.run("inner", "k", 99), api.Result{Trap: api.Bounds, Func: "inner", Slot: 10, Input: "k", Used: 9})
	want(api.Entry{Key: "k", Value: "xy"})
	m.wantEntries("w", api.Entry{Key: "k", Value: "wxyz"})
}

// TestHelpersTraps: r1, r2, r3 in this order, each with its bytes.
func TestHelpersTraps(t *testing.T) {
	const m, n = "wide r1, map m / ", "mov r1, 5 / "
	bad := []struct {
		code string
		trap api.Trap
	}{{"", api.Tag}, {"mov %s, 0 / ", api.Tag}, {"wide %s, map m / ", api.Tag}, {"mov %s, r10 / ", api.Bounds}, {"mov %s, r10 / sub %s, 65 / ", api.Bounds}, {"mov %s, r10 / sub %s, 8 / ", api.None}}
	of := func(code, register string) string { return strings.ReplaceAll(code, "%s", register) }
	slots := func(code string) int { return strings.Count(code, "/") + strings.Count(code, "wide") }
	for _, help := range []string{"get", "put", "del"} {
		for _, second := range bad {
			for _, third := range bad {
				rest := of(second.code, "r2") + of(third.code, "r3")
				for _, first := range []string{"", n, "mov r1, r10 / "} {
					wantTrap(t, first+rest+"help "+help, "", api.Tag, slots(first+rest))
				}
				code := m + rest + "help " + help + " / mov r0, 4"
				switch {
				case second.trap != api.None:
					wantTrap(t, code, "", second.trap, slots(m+rest))
				case help == "put" && third.trap != api.None:
					wantTrap(t, code, "", third.trap, slots(m+rest))
				default:
					wantNumber(t, code, "", 4)
				}
			}
		}
	}
	wantTrap(t, m+"mov r2, r10 / sub r2, 1 / mov r3, r10 / sub r3, 1 / help put", "", api.Bounds, 6)
	wantNumber(t, m+"mov r2, r10 / sub r2, 1 / mov r3, r10 / sub r3, 2 / help put", "", 0)
	wantNumber(t, m+"mov r2, r10 / sub r2, 64 / help del", "", 1)
}

// TestTrappedHelpers: with a trap nothing is done, also if the map is full or
// the key is there.
func TestTrappedHelpers(t *testing.T) {
	m := machineOf(t, "map m 1 2 1 / func f / mov r2, r1 / mov r3, r1 / add r3, 1 / wide r1, map m / help put / exit")
	wantResult(t, m.run("f", "a1", 9), api.Result{Trap: api.Bounds, Func: "f", Slot: 5, Input: "a1", Used: 5})
	m.wantEntries("m")
	m.run("f", "a12", 9)
	for _, input := range []string{"b1", "a3", "b", ""} {
		wantResult(t, m.run("f", input, 9), api.Result{Trap: api.Bounds, Func: "f", Slot: 5, Input: input, Used: 5})
	}
	wantResult(t, m.run("f", "a45", 4), api.Result{Trap: api.Fuel, Func: "f", Slot: 5, Input: "a45", Used: 4})
	m.wantEntries("m", api.Entry{Key: "a", Value: "12"})
	wantResult(t, m.run("f", "b45", 9), api.Result{R0: 1, Input: "b45", Used: 6})
	m.wantEntries("m", api.Entry{Key: "a", Value: "12"})
}

// TestBehindTraps: what was done ahead of it stays: the input, the log, maps.
func TestBehindTraps(t *testing.T) {
	const head = "map m 1 1 4 / func f / st1 [r1+1], 66 / mov r6, r1 / mov r1, 5 / help log / mov r2, r6 / mov r3, r6 / add r3, 1 / wide r1, map m / help put / mov r2, r6 / wide r1, map m / help get / st1 [r0], 67 / "
	for _, c := range []struct {
		code string
		want api.Result
	}{
		{"mov r0, r6 / exit", api.Result{Trap: api.Tag, Slot: 16, Used: 15}},
		{"neg r6 / exit", api.Result{Trap: api.Tag, Slot: 15, Used: 14}},
		{"ld1 r0, [r6+2] / exit", api.Result{Trap: api.Bounds, Slot: 15, Used: 14}},
		{"x: / ja x", api.Result{Trap: api.Fuel, Slot: 15, Used: 5000}},
		{"x: / mov r1, 5 / help log / ja x", api.Result{Trap: api.Log, Slot: 16, Used: 13 + 19*3 + 2}},
		{"x: / call g / exit / func g / call g / exit", api.Result{Trap: api.Depth, Func: "g", Used: 13 + 8}},
	} {
		m := machineOf(t, head+c.code)
		c.want.Input = "aB"
		c.want.Log = []uint64{5}
		for c.want.Trap == api.Log && len(c.want.Log) < 20 {
			c.want.Log = append(c.want.Log, 5)
		}
		if c.want.Func == "" {
			c.want.Func = "f"
		}
		wantResult(t, m.run("f", "ax", 5000), c.want)
		m.wantEntries("m", api.Entry{Key: "a", Value: "C"})
		c.want.Input = "bB"
		wantResult(t, m.run("f", "bx", 5000), c.want)
		m.wantEntries("m", api.Entry{Key: "a", Value: "C"}, api.Entry{Key: "b", Value: "C"})
	}
}
