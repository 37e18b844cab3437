package spool_test

import (
	"strings"
	"testing"

	"spool/api"
)

func TestExamples(t *testing.T) {
	wantObject(t, "func f\nadd r1, 1\nexit", "SPOL\x01\x00\x01\x01f\x02\x00\x22\x01\x00\x00\x01\x00\x00\x00\xc2\x00\x00\x00\x00\x00\x00\x00\x00\x00")
	wantObject(t, "map m 1 2 3", "SPOL\x01\x01\x01m\x01\x02\x03\x00\x00\x00")
	wantObject(t, "", "SPOL\x01\x00\x00\x00\x00")
}

func TestBlanksAndRemarks(t *testing.T) {
	for _, s := range []string{"\n", " ", ";", "\n\n ; ?! func map ~\n;;\n  "} {
		wantObject(t, s, "SPOL\x01\x00\x00\x00\x00")
	}
	for _, s := range []string{"func f\nexit", "func f\nexit\n", "\n  func   f  ;f\n\n;exit\n  exit;exit", "func f;\nexit ;", "func f\n   \nexit\n\n\n"} {
		wantObject(t, s, only(exit))
	}
	for slots, l := range map[string][]string{
		slot(33, 1, 0, 0, -1):  {"mov r1, -1", "mov r1,-1", "  mov   r1  ,   -1  ", "mov r1 ,-0x1;", "mov r1, -1;2"},
		slot(1, 1, 2, 0, 0):    {"mov r1, r2", "mov r1,r2", "mov r1 ,r2 "},
		slot(128, 1, 2, 3, 0):  {"ld1 r1, [r2+3]", "ld1 r1,[r2+3]", "ld1 r1 , [ r2 + 3 ] ", "ld1 r1, [r2+ 0x3]", "ld1 r1, [r2 +3]"},
		slot(128, 1, 2, -3, 0): {"ld1 r1, [r2-3]", "ld1 r1, [ r2 - 3 ]", "ld1 r1, [r2 -3]", "ld1 r1, [r2- 3]"},
		slot(128, 1, 2, 0, 0):  {"ld1 r1, [r2]", "ld1 r1, [ r2 ]", "ld1 r1, [r2-0]", "ld1 r1, [r2+0]"},
		slot(136, 1, 0, 2, -5): {"st1 [r1+2], -5", "st1[r1+2],-5", " st1 [r1+2] ,-5"},
		slot(132, 1, 3, 0, 0):  {"st1 [r1], r3", "st1[r1],r3"},
		slot(193, 0, 0, 0, 1):  {"help get", "  help   get  "},
	} {
		for _, s := range l {
			wantObject(t, "func f\n"+s+"\nexit", only(slots+exit))
		}
	}
	m := "SPOL\x01\x01\x01m\x01\x02\x03\x00\x00\x00"
	for _, s := range []string{"map m 1 2 3", "  map  m  0x1  02  3 ; 4", "map m 1 2 00000000000000000003"} {
		wantObject(t, s, m)
	}
	x := only(slot(64, 0, 0, -1, 0))
	for _, s := range []string{"x:\nja x", " x : \n ja   x", "x:;\nja x;", "x :\n\nja x"} {
		wantObject(t, "func f\n"+s, x)
	}
}

// A `-` needs no blank ahead: these are lines, whose numbers do not go in.
func TestMinusNeedsNoBlank(t *testing.T) {
	for _, s := range []string{"map m-1 1 1", "map m 1-1 1", "map m 1 1-1", "map m-1-1-1", "map m 1 1 -0"} {
		wantFault(t, s, api.ErrRange, 1)
	}
	for _, s := range []string{"map m - 1 1 1", "map m - 1 1", "map m 1 1 - ", "map m 1- 1 1", "map m --1 1 1", "map m +1 1 1", "map m-1", "map m 1 1 1-", "map m 1 1 1-1"} {
		wantFault(t, s, api.ErrSyntax, 1)
	}
}

func TestNoLines(t *testing.T) {
	for _, s := range []string{"exit", "x:", "mov r1, 1", "ja x", ":", "5", "-", ",", "[", "func", "func:", "func f g", "func f:", "func F", "func 1f", "func _f", "func f-1", "func f.g", "func abcdefghijklmnopq", "funcf", "Func f", "map", "map m", "map m 1", "map m 1 1", "map m 1 1 1 1", "map m 1 1 x", "map m, 1 1 1", "map m 1, 1, 1", "map 1 1 1 1", "map M 1 1 1", "map abcdefghijklmnopq 1 1 1", "map m 1 1 000000000000000000001", "map m 1 1 -000000000000000000001", "map m 1 1 1r", "map m 0x 1 1", "map m 1 0X1 1", "mapm 1 1 1", "\t", "\texit", ";\t", "; \x01", "; \x7f", ";\x00", "\x80", ";\u00e9", "func f\r", ";\r", "\x1f", "func\tf", "func f\v"} {
		wantFault(t, s, api.ErrSyntax, 1)
		wantFault(t, s+"\nfunc g\nexit", api.ErrSyntax, 1)
		wantFault(t, "\n;\n"+s, api.ErrSyntax, 3)
	}
	for _, s := range []string{
		"x", "-", "EXIT", "Exit", "exit 0", "exit r0", "exit,", "exit:", "exit x", "exit exit",
		"mov", "mov r1", "mov r1,", "mov r1 1", "mov r1 r2", "mov r1 -1", "mov r1,, 1", "mov r1, 1,", "mov r1, 1 2", "mov r1, r2 r3", "mov r1, r2, r3", "mov 1, r1", "mov r11, 1", "mov r1, r11", "mov r00, 1", "mov r01, 1", "mov R1, 1", "mov r, 1", "mov r-1, 1", "mov r1, x", "mov r1, [r2]", "mov r1, map m", "movr1, 1", "mov64 r1, 1", "mov16 r1, 1", "mov 32 r1, 1", "mov32", "mov32 r1", "_mov r1, 1",
		"mov r1, 0x", "mov r1, 0xg", "mov r1, 0xF", "mov r1, 0X1", "mov r1, 1x", "mov r1, 12a", "mov r1, a1", "mov r1, 00x1", "mov r1, 1_0", "mov r1, 1 0", "mov r1, - 1", "mov r1, - ", "mov r1, -;1", "mov r1, - ;1", "wide r1, - ", "st1 [r1], - ", "jeq r1, - , x", "mov r1, --1", "mov r1, +1", "mov r1, -", "mov r1, -x", "mov r1, -r2", "mov r1, 1-", "mov r1, 1.0", "mov r1, '1'", "mov r1, 000000000000000000000", "mov r1, -000000000000000000001", "mov r1, 0x0000000000000000001", "mov r1, -0x0000000000000000001", "mov r1, 999999999999999999999",
		"neg", "neg 1", "neg r1, r2", "neg r1, 1", "neg32", "neg32 r1 r2", "neg r11",
		"ja", "ja 1", "ja -1", "ja x y", "ja x:", "ja x,", "ja r1 x", "ja r1, x", "ja X", "ja _x", "ja abcdefghijklmnopq", "ja32 x", "jmp x", "jeq", "jeq r1", "jeq r1, x", "jeq r1, r2", "jeq r1, 1", "jeq r1, r2, 1", "jeq r1, r2 x", "jeq r1 r2, x", "jeq 1, r1, x", "jeq 1, 1, x", "jeq r1, x, x", "jeq r1, 1, x, x", "jeq r1, 1, x:", "jeq32 r1, 1, x", "jsne r1, 1, x", "jseq r1, 1, x",
		"ld r1, [r2]", "ld3 r1, [r2]", "ld16 r1, [r2]", "ld1", "ld1 r1", "ld1 r1, r2", "ld1 r1, 5", "ld1 r1 [r2]", "ld1 r1, [r2", "ld1 r1, r2]", "ld1 r1, []", "ld1 r1, [+1]", "ld1 r1, [2]", "ld1 r1, [r11]", "ld1 r1, [r2+]", "ld1 r1, [r2-]", "ld1 r1, [r2+-1]", "ld1 r1, [r2--1]", "ld1 r1, [r2+ -0]", "ld1 r1, [r2++1]", "ld1 r1, [r2 1]", "ld1 r1, [r2+r3]", "ld1 r1, [r2+x]", "ld1 r1, [r2+0x]", "ld1 r1, [r2+1+1]", "ld1 r1, [r2+1]]", "ld1 r1, [[r2]]", "ld1 r1, [r2]+1", "ld1 r1, [r2+000000000000000000001]", "ld1 r1, [r2-000000000000000000001]", "ld1 [r1], r2", "ld132 r1, [r2]",
		"st1", "st1 [r1]", "st1 [r1],", "st1 [r1] r2", "st1 [r1], [r2]", "st1 r1, r2", "st1 r1, [r2]", "st1 [r1], x", "st1 [r1], r11", "st1 [r1], 1 2", "st1 [1], 1", "st1 [r1+-1], 1", "st3 [r1], 1",
		"wide", "wide r1", "wide r1,", "wide r1 5", "wide r1, r2", "wide r1, x", "wide r1, map", "wide r1, map 1", "wide r1, map m x", "wide r1, map M", "wide r1, mapm", "wide r1, map, m", "wide r1, map-1", "wide 1, 1", "wide r11, 1", "wide r1, 1 1", "wide r1, 000000000000000000001", "wide32 r1, 1", "wide r1, map abcdefghijklmnopq",
		"help", "help none", "help 1", "help Get", "help get put", "help get, put", "helpget", "help get:", "help r1", "get", "call", "call 1", "call f g", "call f,", "call F", "call f:", "call f()", "call abcdefghijklmnopq", "callf",
		"x: exit", "x::", ":x", "x:y", ": x", "1:", "X:", "_x:", "x-y:", "-x:", "x y:", "abcdefghijklmnopq:", "func g:", "func", "map m 1 1",
		"exit ?", "exit !", "?", "\"", "exit \x7f", "exit ; \x1f", "exit\t", "exit\r", "exit\x00", "\xc3\xa9", "; \xff", "exit /",
	} {
		wantFault(t, "func f\n"+s+"\nexit", api.ErrSyntax, 2)
		wantFault(t, "func f\nmov r10, 1\nexit\n\n"+s, api.ErrSyntax, 5)
	}
}

func reserved() []string {
	out := strings.Fields("map func neg neg32 ja ld1 ld2 ld4 ld8 st1 st2 st4 st8 wide help call exit r0 r1 r2 r3 r4 r5 r6 r7 r8 r9 r10")
	for _, w := range strings.Fields(arith) {
		out = append(out, w, w+"32")
	}
	return append(out, strings.Fields(jumps)...)
}

// A line's first words and the registers are names like others, but no labels.
func TestReservedNames(t *testing.T) {
	for _, w := range reserved() {
		wantFault(t, "func f\n"+w+":\nexit", api.ErrSyntax, 2)
		wantFault(t, "func f\n"+w+" :\nexit", api.ErrSyntax, 2)
		wantFault(t, "func f\nja "+w+"\nexit", api.ErrNone, 2)
		wantFault(t, "func f\njeq r1, r2, "+w+"\nexit", api.ErrNone, 2)
		wantFault(t, "func f\nwide r1, map "+w+"\nexit", api.ErrNone, 2)
		text := "map " + w + " 1 2 3\nfunc " + w + "\n  wide r1, map " + w + "\n  call " + w + "\n  exit\n"
		slots := slot(192, 1, 1, 0, 0) + slot(0, 0, 0, 0, 0) + slot(193, 0, 1, 0, 0) + exit
		wantBoth(t, text, object([]sized{{w, 1, 2, 3}}, []fun{{w, slots}}, ref{0, 0, w}, ref{0, 2, w}))
	}
	for _, w := range []string{"ja32", "jeq32", "jset32", "ld", "ld3", "ld132", "st16", "wide32", "exit32", "help32", "call32", "get", "put", "del", "log", "r", "r11", "r00", "r01", "r100", "mov64", "maps", "f", "x", "a_1", "x_", "a0123456789012_z", "abcdefghijklmnop"} {
		wantObject(t, "func f\n"+w+":\nja "+w, only(slot(64, 0, 0, -1, 0)))
	}
}

func TestNamesAtTheirEnds(t *testing.T) {
	const longest = "a_3456789z123456"
	for _, w := range []string{"a", "z", "a0", "z_", "a__9", longest} {
		text := "map " + w + " 8 16 8\nfunc " + w + "\n  wide r1, map " + w + "\n  call " + w + "\n  exit\n"
		slots := slot(192, 1, 1, 0, 0) + slot(0, 0, 0, 0, 0) + slot(193, 0, 1, 0, 0) + exit
		wantBoth(t, text, object([]sized{{w, 8, 16, 8}}, []fun{{w, slots}}, ref{0, 0, w}, ref{0, 2, w}))
		wantObject(t, "func f\n"+w+":\nja "+w, only(slot(64, 0, 0, -1, 0)))
	}
	for _, w := range []string{longest + "7", "A", "0", "_", "_a", "a-b", "a.b", "aB", "a\u00e9", "a`", "a{", "a/", "a@"} {
		for _, s := range []string{"map " + w + " 1 1 1", "func " + w, w + ":", "ja " + w, "jeq r1, 1, " + w, "call " + w, "wide r1, map " + w} {
			wantFault(t, "func f\n"+s+"\nexit", api.ErrSyntax, 2)
		}
	}
}

func TestOrder(t *testing.T) {
	text := "map b 1 1 1\nfunc zz\ncall b\nexit\nmap ab 2 2 2\nfunc z\nmap a 3 3 3\nwide r1, 1\ncall nowhere\nwide r2, map b\nexit\nmap a_ 4 4 4\nfunc b\nexit\nmap a0 5 5 5\nfunc z_\nexit\nfunc z0\nexit"
	call := slot(193, 0, 1, 0, 0)
	z := slot(192, 1, 0, 0, 1) + slot(0, 0, 0, 0, 0) + call + slot(192, 2, 1, 0, 0) + slot(0, 0, 0, 0, 0) + exit
	o := object([]sized{{"a", 3, 3, 3}, {"a0", 5, 5, 5}, {"a_", 4, 4, 4}, {"ab", 2, 2, 2}, {"b", 1, 1, 1}},
		[]fun{{"b", exit}, {"z", z}, {"z0", exit}, {"z_", exit}, {"zz", call + exit}},
		ref{1, 2, "nowhere"}, ref{1, 3, "b"}, ref{4, 0, "b"})
	wantObject(t, text, o)
	wantText(t, o, "map a 3 3 3\nmap a0 5 5 5\nmap a_ 4 4 4\nmap ab 2 2 2\nmap b 1 1 1\nfunc b\n  exit\nfunc z\n  wide r1, 1\n  call nowhere\n  wide r2, map b\n  exit\nfunc z0\n  exit\nfunc z_\n  exit\nfunc zz\n  call b\n  exit\n")
}

func TestLabels(t *testing.T) {
	wide := slot(192, 1, 0, 0, 7) + slot(0, 0, 0, 0, 0)
	ja := func(n int) string { return slot(64, 0, 0, n, 0) }
	for _, c := range []struct{ text, told, slots string }{
		{"x:\nja x", "l0:\n  ja l0\n", ja(-1)},
		{"ja x\nx:\nexit", "  ja l0\nl0:\n  exit\n", ja(0) + exit},
		{"x:\ny:\nja y\nz:\nja x\nw:", "l0:\n  ja l0\n  ja l0\n", ja(-1) + ja(-2)},
		{"ja x\nwide r1, 7\nx:\nja y\ny:\nwide r1, 7\nja x", "  ja l0\n  wide r1, 7\nl0:\n  ja l1\nl1:\n  wide r1, 7\n  ja l0\n", ja(2) + wide + ja(0) + wide + ja(-4)},
		{"x:\nwide r1, 7\nja x", "l0:\n  wide r1, 7\n  ja l0\n", wide + ja(-3)},
		{"ja c\na:\nja b\nb:\nja a\nc:\nja c", "  ja l2\nl0:\n  ja l1\nl1:\n  ja l0\nl2:\n  ja l2\n", ja(2) + ja(0) + ja(-2) + ja(-1)},
		{"exit\nunused:", "  exit\n", exit},
		{"unused:\nexit\nbehind:\nbehind2:", "  exit\n", exit},
		{"f:\nja f", "l0:\n  ja l0\n", ja(-1)},
		{"ja x\nmap m 1 1 1\nx:\nmap k 1 1 1\nexit", "", ja(0) + exit},
	} {
		if c.told == "" {
			wantObject(t, "func f\n"+c.text, object([]sized{{"k", 1, 1, 1}, {"m", 1, 1, 1}}, []fun{{"f", c.slots}}))
			continue
		}
		wantObject(t, "func f\n"+c.text, only(c.slots))
		wantBoth(t, "func f\n"+c.told, only(c.slots))
	}
	wantBoth(t, "func f\nl0:\n  ja l0\nfunc g\nl0:\n  ja l0\n", object(nil, []fun{{"f", ja(-1)}, {"g", ja(-1)}}))
}

// The longest jumps that an object has room for, and more labels than digits.
func TestManyLabels(t *testing.T) {
	text, told, slots := "func f\nja last\nfirst:", "func f\n  ja l1\nl0:\n", slot(64, 0, 0, 197, 0)
	text += strings.Repeat("\nneg r1", 197) + "\nja first\nlast:\nja first"
	told += strings.Repeat("  neg r1\n", 197)
	told += "  ja l0\nl1:\n  ja l0\n"
	slots += strings.Repeat(slot(13, 1, 0, 0, 0), 197) + slot(64, 0, 0, -198, 0) + slot(64, 0, 0, -199, 0)
	slots = slot(64, 0, 0, 198, 0) + slots[8:]
	wantObject(t, text, only(slots))
	wantBoth(t, told, only(slots))

	told, slots = "func f\n", strings.Repeat(slot(64, 0, 0, -1, 0), 12)
	for _, l := range strings.Fields("l0 l1 l2 l3 l4 l5 l6 l7 l8 l9 l10 l11") {
		told += l + ":\n  ja " + l + "\n"
	}
	wantBoth(t, told, only(slots))
}
