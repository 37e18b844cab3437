package spool_test

import (
	"strconv"
	"strings"
	"testing"

	"spool/api"
	"spool/spool"
)

const (
	arith = "mov add sub mul div mod and or xor lsh rsh ash"
	jumps = "jeq jne jgt jge jlt jle jsgt jsge jslt jsle jset"
)

// both: P3, P4 of one instruction.
func both(t *testing.T, text, slots string) {
	t.Helper()
	wantBoth(t, "func f\n  "+text+"\n  exit\n", only(slots+exit))
}

func TestEachArithOp(t *testing.T) {
	for n, w := range strings.Fields(arith) {
		both(t, w+" r3, r10", slot(n+1, 3, 10, 0, 0))
		both(t, w+" r9, r0", slot(n+1, 9, 0, 0, 0))
		both(t, w+"32 r0, r9", slot(n+17, 0, 9, 0, 0))
		both(t, w+" r9, -5", slot(n+33, 9, 0, 0, -5))
		both(t, w+"32 r1, 66051", slot(n+49, 1, 0, 0, 66051))
	}
	for d := range 10 {
		both(t, "neg r"+strconv.Itoa(d), slot(13, d, 0, 0, 0))
		both(t, "neg32 r"+strconv.Itoa(d), slot(29, d, 0, 0, 0))
	}
}

func TestEachJumpOp(t *testing.T) {
	for n, w := range strings.Fields(jumps) {
		wantBoth(t, "func f\n  "+w+" r10, r9, l0\n  exit\nl0:\n  exit\n", only(slot(65+n, 10, 9, 1, 0)+exit+exit))
		wantBoth(t, "func f\nl0:\n  "+w+" r0, r10, l0\n  exit\n", only(slot(65+n, 0, 10, -1, 0)+exit))
		wantBoth(t, "func f\n  "+w+" r10, -7, l0\nl0:\n  exit\n", only(slot(97+n, 10, 0, 0, -7)+exit))
	}
	wantBoth(t, "func f\n  ja l0\nl0:\n  exit\n", only(slot(64, 0, 0, 0, 0)+exit))
}

func TestEachMemoryOp(t *testing.T) {
	for n, w := range strings.Fields("1 2 4 8") {
		both(t, "ld"+w+" r9, [r10-8]", slot(128+n, 9, 10, -8, 0))
		both(t, "ld"+w+" r0, [r1]", slot(128+n, 0, 1, 0, 0))
		both(t, "st"+w+" [r10+258], r10", slot(132+n, 10, 10, 258, 0))
		both(t, "st"+w+" [r2], r3", slot(132+n, 2, 3, 0, 0))
		both(t, "st"+w+" [r10-1], -9", slot(136+n, 10, 0, -1, -9))
		both(t, "st"+w+" [r2], 0", slot(136+n, 2, 0, 0, 0))
	}
}

func TestOtherOps(t *testing.T) {
	for n, w := range strings.Fields("get put del log") {
		both(t, "help "+w, slot(193, 0, 0, 0, n+1))
	}
	both(t, "exit", exit)
	both(t, "wide r9, 0", slot(192, 9, 0, 0, 0)+slot(0, 0, 0, 0, 0))
	both(t, "wide r0, 1311768467463790320", slot(192, 0, 0, 0, 0x9abcdef0)+slot(0, 0, 0, 0, 0x12345678))
	wantBoth(t, "func f\n  call f\n  call g\n  exit\n", only(slot(193, 0, 1, 0, 0)+slot(193, 0, 1, 0, 0)+exit, ref{0, 0, "f"}, ref{0, 1, "g"}))
	wantBoth(t, "map m 8 16 8\nfunc f\n  wide r9, map m\n  exit\n", object([]sized{{"m", 8, 16, 8}}, []fun{{"f", slot(192, 9, 1, 0, 0) + slot(0, 0, 0, 0, 0) + exit}}, ref{0, 0, "m"}))
}

func TestNumbersAtTheirEnds(t *testing.T) {
	const huge = "99999999999999999999"
	for _, c := range []struct {
		written string
		number  int
	}{{"2147483647", 2147483647}, {"-2147483648", -2147483648}, {"0x7fffffff", 2147483647}, {"-0x80000000", -2147483648}, {"0", 0}, {"-0", 0}, {"0x0", 0}, {"-0x00", 0}, {"007", 7}, {"08", 8}, {"00000000000000000012", 12}, {"-00000000000000000012", -12}, {"0x0000000000000000ab", 0xab}, {"-0x0000000000000000cd", -0xcd}, {"0xef", 0xef}} {
		wantObject(t, "func f\nsub r1, "+c.written+"\nexit", only(slot(35, 1, 0, 0, c.number)+exit))
		wantObject(t, "func f\nx:\njset r1, "+c.written+", x\nexit", only(slot(107, 1, 0, -1, c.number)+exit))
		wantObject(t, "func f\nst2 [r1], "+c.written+"\nexit", only(slot(137, 1, 0, 0, c.number)+exit))
	}
	for _, n := range []string{"2147483648", "-2147483649", "0x80000000", "-0x80000001", "4294967295", "0xffffffff", "18446744073709551616", "18446744073709551615", "-18446744073709551615", huge, "-" + huge, "0xffffffffffffffffff", "0x100000000000000000", "-0x100000000000000001"} {
		for _, w := range []string{"mov r1, " + n, "mov32 r1, " + n, "jeq r1, " + n + ", x", "st1 [r1], " + n, "st8 [r1+1], " + n} {
			wantFault(t, "func f\nx:\n"+w+"\nexit", api.ErrRange, 3)
		}
	}
	for _, c := range []struct {
		written string
		jump    int
	}{{"+32767", 32767}, {"-32768", -32768}, {"+0x7fff", 32767}, {"-0x8000", -32768}, {"+0", 0}, {"-0", 0}, {"", 0}, {"+00000000000000000001", 1}, {"-00000000000000000001", -1}, {"-0x000000000000000010", -16}} {
		wantObject(t, "func f\nld4 r1, [r2"+c.written+"]\nexit", only(slot(130, 1, 2, c.jump, 0)+exit))
		wantObject(t, "func f\nst4 [r1"+c.written+"], r2\nexit", only(slot(134, 1, 2, c.jump, 0)+exit))
		wantObject(t, "func f\nst4 [r1"+c.written+"], 2\nexit", only(slot(138, 1, 0, c.jump, 2)+exit))
	}
	for _, n := range []string{"+32768", "-32769", "+0x8000", "-0x8001", "+65535", "-65536", "+" + huge, "-" + huge, "+0x100000000000000000", "+18446744073709551616", "+18446744073709551615"} {
		for _, w := range []string{"ld1 r1, [r2" + n + "]", "st1 [r1" + n + "], r2", "st1 [r1" + n + "], 2"} {
			wantFault(t, "func f\n"+w+"\nexit", api.ErrRange, 2)
		}
	}
	both(t, "ld8 r1, [r2+32767]", slot(131, 1, 2, 32767, 0))
	both(t, "ld8 r1, [r2-32768]", slot(131, 1, 2, -32768, 0))
	both(t, "mov r1, 2147483647", slot(33, 1, 0, 0, 2147483647))
	both(t, "mov r1, -2147483648", slot(33, 1, 0, 0, -2147483648))
}

func TestWideNumbers(t *testing.T) {
	const zero = "\x00\x00\x00\x00"
	for _, c := range []struct{ written, told, low, high string }{
		{"18446744073709551615", "18446744073709551615", "\xff\xff\xff\xff", "\xff\xff\xff\xff"},
		{"0xffffffffffffffff", "18446744073709551615", "\xff\xff\xff\xff", "\xff\xff\xff\xff"},
		{"-1", "18446744073709551615", "\xff\xff\xff\xff", "\xff\xff\xff\xff"},
		{"-9223372036854775808", "9223372036854775808", zero, "\x00\x00\x00\x80"},
		{"-0x8000000000000000", "9223372036854775808", zero, "\x00\x00\x00\x80"},
		{"9223372036854775808", "9223372036854775808", zero, "\x00\x00\x00\x80"},
		{"4294967295", "4294967295", "\xff\xff\xff\xff", zero},
		{"4294967296", "4294967296", zero, "\x01\x00\x00\x00"},
		{"-4294967296", "18446744069414584320", zero, "\xff\xff\xff\xff"},
		{"-0", "0", zero, zero},
		{"00000000000000000005", "5", "\x05\x00\x00\x00", zero},
	} {
		o := only("\xc0\x02\x00\x00" + c.low + zero + c.high + exit)
		wantObject(t, "func f\nwide r2, "+c.written+"\nexit", o)
		wantText(t, o, "func f\n  wide r2, "+c.told+"\n  exit\n")
	}
	for _, n := range []string{"18446744073709551616", "-9223372036854775809", "0x10000000000000000", "-0x8000000000000001", "-18446744073709551615", "99999999999999999999", "0xffffffffffffffffff", "18446744073709551620", "36893488147419103232", "0x100000000000000001"} {
		wantFault(t, "func f\nwide r2, "+n+"\nexit", api.ErrRange, 2)
	}
}

// rightSlot: the document's table of ops, in an object whose function has
// slots for jumps of 0 and 1.
func rightSlot(op, d, s, jump, number int) bool {
	var needD, needS, needJump, needNumber, ten, leads bool
	switch {
	case op >= 1 && op <= 12, op >= 17 && op <= 28:
		needD, needS = true, true
	case op == 13, op == 29:
		needD = true
	case op >= 33 && op <= 44, op >= 49 && op <= 60:
		needD, needNumber = true, true
	case op == 64:
		needJump, leads = true, true
	case op >= 65 && op <= 75:
		needD, needS, needJump, ten, leads = true, true, true, true, true
	case op >= 97 && op <= 107:
		needD, needNumber, needJump, ten, leads = true, true, true, true, true
	case op >= 128 && op <= 131:
		needD, needS, needJump = true, true, true
	case op >= 132 && op <= 135:
		needD, needS, needJump, ten = true, true, true, true
	case op >= 136 && op <= 139:
		needD, needNumber, needJump, ten = true, true, true, true
	case op == 192:
		return d < 10 && jump == 0 && (s == 0 || s == 1 && number == 0)
	case op == 193:
		return d == 0 && jump == 0 && (s == 0 && number >= 1 && number <= 4 || s == 1 && number == 0)
	case op == 194:
	default:
		return false
	}
	return (needD && (d < 10 || ten && d == 10) || d == 0) &&
		(needS && s <= 10 || s == 0) &&
		(needJump && (!leads || jump == 0 || jump == 1) || jump == 0) &&
		(needNumber || number == 0)
}

// TestEachSlot holds what Disassemble takes, at every op and its places,
// against the table, and against what Assemble makes of it.
func TestEachSlot(t *testing.T) {
	for block := range 16 {
		t.Run(strconv.Itoa(block*16), func(t *testing.T) {
			t.Parallel()
			for op := block * 16; op < block*16+16; op++ {
				checkOp(t, op)
			}
		})
	}
}

func checkOp(t *testing.T, op int) {
	places := [][2]int{{0, 0}, {0, 1}, {1, 0}, {0, 4}, {0, 5}, {0, -1}, {2, 0}, {1, 1}, {-2, 0}, {256, 0}}
	for ds := range 256 {
		for n, p := range places {
			if n > 1 && ds > 32 && ds%17 != 0 { // few registers are enough for the other places
				continue
			}
			checkSlot(t, op, ds&15, ds>>4, p[0], p[1])
		}
	}
}

func checkSlot(t *testing.T, op, d, s, jump, number int) {
	t.Helper()
	slots := slot(op, d, s, jump, number)
	if op == 192 {
		slots += slot(0, 0, 0, 0, 0)
	}
	var refs []ref
	if s == 1 && (op == 192 || op == 193) {
		refs = []ref{{0, 0, "m"}}
	}
	o := object([]sized{{"m", 1, 1, 1}}, []fun{{"f", slots + exit + exit}}, refs...)
	text, e := spool.Disassemble(o)
	if right := rightSlot(op, d, s, jump, number); right != (e == api.OK) || right != (text != "") {
		t.Errorf("P4: op %d, D %d, S %d, jump %d, number %d: %q, %d, want right: %v", op, d, s, jump, number, text, e, right)
	}
	if e == api.OK {
		wantObject(t, text, o)
	}
}
