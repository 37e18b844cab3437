package spool_test

import (
	"strconv"
	"strings"
	"testing"

	"spool/api"
)

// lines: a text of n times the same line.
func lines(n int, s string) string { return strings.Repeat(s+"\n", n) }

// numbered: a text of n lines, in each of which # is a letter of its own.
func numbered(n int, s string) string {
	out := ""
	for i := range n {
		out += strings.ReplaceAll(s, "#", string(rune('a'+i))) + "\n"
	}
	return out
}

func TestTextLimit(t *testing.T) {
	full := "func f\nexit\n;" + strings.Repeat("x", api.MaxText-13)
	if len(full) != 4000 {
		t.Fatal(len(full))
	}
	wantObject(t, full, only(exit))
	wantObject(t, strings.Repeat("\n", 4000), "SPOL\x01\x00\x00\x00\x00")
	for _, s := range []string{full + "x", full + "\n", strings.Repeat("\n", 4001), strings.Repeat(" ", 4001), strings.Repeat("?", 4001), strings.Repeat("\x00", 100000), "?\n" + full} {
		wantFault(t, s, api.ErrLimit, 0)
	}
	wantFault(t, strings.Repeat("?", 4000), api.ErrSyntax, 1)
	wantFault(t, strings.Repeat("\n", 3999)+"?", api.ErrSyntax, 4000)
}

func TestMapNumbers(t *testing.T) {
	for _, s := range []string{"1 1 1", "8 16 8", "0x8 0x10 0x8", "8 1 1", "1 16 1", "1 1 8"} {
		wantRight(t, "map m "+s)
	}
	for _, s := range []string{"0 1 1", "1 0 1", "1 1 0", "9 1 1", "1 17 1", "1 1 9", "-1 1 1", "1 -1 1", "1 1 -1", "-0 1 1", "257 1 1", "1 257 1", "1 1 257", "4294967297 1 1", "1 18446744073709551615 1", "18446744073709551617 1 1", "1 1 99999999999999999999", "0x100000000000000001 1 1", "1 0x100000000000000001 1", "-18446744073709551615 1 1", "1 1 -9223372036854775808", "0 0 0"} {
		wantFault(t, "map m "+s, api.ErrRange, 1)
		wantFault(t, "func f\nexit\nmap m "+s, api.ErrRange, 3)
	}
}

func TestRegisterTen(t *testing.T) {
	var never, may []string
	for _, w := range strings.Fields(arith) {
		never = append(never, w+" r10, r1", w+"32 r10, r1", w+" r10, 1", w+"32 r10, 1")
		may = append(may, w+" r1, r10", w+"32 r1, r10")
	}
	for _, w := range strings.Fields(jumps) {
		may = append(may, w+" r10, r10, x", w+" r10, 1, x")
	}
	for _, w := range strings.Fields("1 2 4 8") {
		never = append(never, "ld"+w+" r10, [r1]", "ld"+w+" r10, [r10-8]")
		may = append(may, "ld"+w+" r1, [r10]", "st"+w+" [r10], r10", "st"+w+" [r10-8], 1")
	}
	never = append(never, "neg r10", "neg32 r10", "wide r10, 5", "wide r10, map m", "wide r10, map none")
	for _, s := range never {
		wantFault(t, "map m 1 1 1\nfunc f\n"+s+"\nexit", api.ErrRange, 3)
	}
	for _, s := range may {
		wantRight(t, "func f\nx:\n"+s+"\nexit")
	}
}

func TestTwice(t *testing.T) {
	wantFault(t, "map m 1 1 1\nmap k 1 1 1\nmap m 1 1 1", api.ErrTwice, 3)
	wantFault(t, "map m 1 1 1\nmap m 2 2 2", api.ErrTwice, 2)
	wantFault(t, "func f\nexit\nfunc g\nexit\nfunc f\nexit", api.ErrTwice, 5)
	wantFault(t, "func f\nx:\nneg r1\nx:\nexit", api.ErrTwice, 4)
	wantFault(t, "func f\nx:\nx:\nexit", api.ErrTwice, 3)
	wantFault(t, "func f\nja x\nx:\nexit\nx:", api.ErrTwice, 5)
	wantFault(t, "func f\nexit\nx:\nx:", api.ErrTwice, 4)
	wantFault(t, "func f\nx:\nmap m 1 1 1\nx:\nexit", api.ErrTwice, 4)
	wantRight(t, "map f 1 1 1\nfunc f\nf:\nja f\nfunc g\nf:\nja f\nmap g 1 1 1")
}

func TestNone(t *testing.T) {
	for _, s := range []string{"ja x", "jeq r1, r2, x", "jeq r1, 5, x", "jset r10, r10, x", "wide r1, map x"} {
		wantFault(t, "func f\n"+s+"\nexit", api.ErrNone, 2)
		wantFault(t, "func g\nx:\nja x\nfunc f\n"+s+"\nexit", api.ErrNone, 5)
		wantFault(t, "func f\n"+s+"\nexit\nfunc x\nx:\nja x", api.ErrNone, 2)
		wantFault(t, "func f\nxx:\n"+s+"\nexit\nmap xx 1 1 1", api.ErrNone, 3)
	}
	wantFault(t, "map x 1 1 1\nfunc f\nja x", api.ErrNone, 3)
	wantFault(t, "func f\nx:\nwide r1, map x\nexit", api.ErrNone, 3)
	wantFault(t, "func f\nwide r1, map f\nexit", api.ErrNone, 2)
	wantFault(t, "func f\nja f", api.ErrNone, 2)
	wantFault(t, "func f\nja x\nx:", api.ErrNone, 2)
	wantFault(t, "func f\nja x\nmap m 1 1 1\nx:\n\n", api.ErrNone, 2)
	wantFault(t, "func f\njeq r1, 1, x\nexit\nx:\nfunc g\nexit", api.ErrNone, 2)
	wantFault(t, "func f\nneg r1\nja x\nx:\ny:\nfunc x\nexit", api.ErrNone, 3)
	wantRight(t, "func f\nwide r1, map m\nexit\nmap m 1 1 1")
	wantRight(t, "func f\ncall none\nexit")
}

func TestLimits(t *testing.T) {
	wantRight(t, numbered(8, "map #m 1 1 1"))
	wantFault(t, numbered(9, "map #m 1 1 1"), api.ErrLimit, 9)
	wantFault(t, "func f\nexit\n"+numbered(10, "map #m 1 1 1"), api.ErrLimit, 11)
	wantRight(t, numbered(16, "func #f\nexit"))
	wantFault(t, numbered(17, "func #f\nexit"), api.ErrLimit, 33)
	wantFault(t, numbered(18, "func #f\nexit"), api.ErrLimit, 33)

	for _, s := range []string{lines(199, "neg r1") + "exit", lines(200, "exit"), lines(99, "wide r1, 1") + "neg r1\nexit", "neg r1\n" + lines(99, "wide r1, 1") + "exit"} {
		wantRight(t, "func f\n"+s)
		wantFault(t, "func f\nneg r1\n"+s, api.ErrLimit, strings.Count("func f\nneg r1\n"+strings.TrimSuffix(s, "\n"), "\n")+1)
	}
	wantFault(t, "func f\n"+lines(200, "neg r1")+"wide r1, 1\nexit", api.ErrLimit, 202)
	wantFault(t, "func f\n"+lines(199, "neg r1")+"wide r1, 1\nexit", api.ErrLimit, 201)
	wantFault(t, "func f\n"+lines(100, "wide r1, 1")+"exit", api.ErrLimit, 102)
	wantFault(t, "func f\nneg r1\n"+lines(100, "wide r1, 1")+"exit", api.ErrLimit, 102)
	wantFault(t, "func f\n"+lines(700, "exit"), api.ErrLimit, 202)
	wantFault(t, "func f\n\n;\nx:\n"+lines(200, "exit")+"y:\nexit", api.ErrLimit, 206)

	wantRight(t, "func f\n"+lines(100, "exit")+"func g\n"+lines(100, "exit"))
	wantFault(t, "func f\n"+lines(100, "exit")+"func g\n"+lines(101, "exit"), api.ErrLimit, 203)
	wantFault(t, "func f\n"+lines(199, "exit")+"func g\nwide r1, 1\nexit", api.ErrLimit, 202)
	wantFault(t, "func f\n"+lines(200, "exit")+"func g\nexit", api.ErrLimit, 203)
	wantRight(t, numbered(16, "func #f\nneg r1\nwide r1, 1\nexit")+lines(136, "exit"))
}

func TestEnd(t *testing.T) {
	wantFault(t, "func f", api.ErrEnd, 1)
	wantFault(t, "\nfunc f\n;exit\n", api.ErrEnd, 2)
	wantFault(t, "func f\nx:", api.ErrEnd, 1)
	wantFault(t, "func f\nexit\nfunc g\n\nfunc h\nexit", api.ErrEnd, 3)
	wantFault(t, "func f\nexit\nfunc g\nmap m 1 1 1\nx:", api.ErrEnd, 3)
	for _, s := range []string{"neg r1", "mov r1, 1", "jeq r1, r1, x", "jeq r1, 1, x", "ld1 r1, [r2]", "st1 [r1], r2", "wide r1, 194", "wide r1, map m", "help log", "call f"} {
		wantFault(t, "map m 1 1 1\nfunc f\nx:\nexit\n"+s, api.ErrEnd, 2)
		wantFault(t, "func g\nja x\nx:\nexit\nfunc f\nx:\n"+s+"\nmap m 1 1 1\nfunc h\nexit", api.ErrEnd, 5)
	}
	wantRight(t, "func f\nx:\nneg r1\nja x")
	wantRight(t, "func f\nneg r1\nexit\nx:\nmap m 1 1 1")
	wantRight(t, "func f\nmap m 1 1 1\nexit")
}

// TestWhichError: where several apply, the kind of the text first, then the
// first line, and at one line the one that the document names first.
func TestWhichError(t *testing.T) {
	over := func(n int) string { return "func f\n" + lines(n, "exit") }
	for _, c := range []struct {
		text string
		e    api.Errno
		at   int
	}{
		{strings.Repeat("\n", 3990) + "?\nmap m 0 1 1\n", api.ErrLimit, 0},
		{"map m 0 1 1\nmap m 0 1 1\nfunc f\nja x\n?\n!", api.ErrSyntax, 5},
		{numbered(17, "func #f") + "x", api.ErrSyntax, 18},
		{over(300) + "?", api.ErrSyntax, 302},
		{"exit\nfunc f\n?", api.ErrSyntax, 1},
		{"map m 0 1 1\nx:\nfunc f", api.ErrSyntax, 2},

		{"map m 0 1 1\nfunc f\nja x", api.ErrRange, 1},
		{"func f\nmov r10, 1", api.ErrEnd, 1},
		{"func f\nmov r10, 1\nja x\nexit", api.ErrRange, 2},
		{"func f\nja x\nmov r10, 1\nexit", api.ErrNone, 2},
		{"func f\nx:\nx:\nmov r10, 1\nexit", api.ErrTwice, 3},
		{"func f\nja y\nx:\nx:\nexit", api.ErrNone, 2},
		{"func f\nexit\nfunc f\nmap m 0 1 1", api.ErrTwice, 3},
		{"func f\nexit\nfunc g\nmap m 0 1 1\nfunc f", api.ErrEnd, 3},
		{numbered(9, "map #m 1 1 1") + "map z 0 1 1", api.ErrLimit, 9},

		{"map m 1 1 1\nmap m 0 1 1", api.ErrRange, 2},
		{numbered(8, "map #m 1 1 1") + "map am 1 1 9", api.ErrRange, 9},
		{numbered(8, "map #m 1 1 1") + "map zm 1 1 9", api.ErrRange, 9},
		{numbered(8, "map #m 1 1 1") + "map am 1 1 1", api.ErrTwice, 9},
		{numbered(16, "func #f\nexit") + "func af\nexit", api.ErrTwice, 33},
		{numbered(16, "func #f\nexit") + "func af", api.ErrTwice, 33},
		{numbered(16, "func #f\nexit") + "func zf", api.ErrLimit, 33},
		{"func f\nexit\nfunc f", api.ErrTwice, 3},
		{"func f\njeq r1, 2147483648, x\nexit", api.ErrRange, 2},
		{"func f\nwide r10, map m\nexit", api.ErrRange, 2},
		{"func f\nld1 r10, [r1+32768]\nexit", api.ErrRange, 2},
		{over(200) + "mov r10, 1\nexit", api.ErrRange, 202},
		{over(200) + "mov r1, 2147483648\nexit", api.ErrRange, 202},
		{over(200) + "ja x", api.ErrNone, 202},
		{over(199) + "wide r1, map m\nexit", api.ErrNone, 201},
		{over(200) + "wide r1, map m\nexit", api.ErrNone, 202},
		{over(200) + "x:\nx:\nexit", api.ErrTwice, 203},
		{over(200) + "exit\nmap m 0 1 1", api.ErrLimit, 202},
		{"func f\nja x\n" + lines(199, "exit") + "x:\nexit", api.ErrLimit, 203},
		{"func f\n" + lines(200, "exit") + "func g\n", api.ErrEnd, 202},
		{"func f\n" + lines(200, "exit") + "neg r1", api.ErrEnd, 1},
		{"func f\n" + lines(250, "neg r1"), api.ErrEnd, 1},
		{"func f\nwide r1, map m\nexit\nmap m 0 1 1", api.ErrRange, 4},
		{"func f\nwide r1, map im\nexit\n" + numbered(9, "map #m 1 1 1"), api.ErrLimit, 12},
		{"map m 1 1 1\nfunc f\nwide r1, map m\nexit\nmap m 1 1 1", api.ErrTwice, 5},
	} {
		wantFault(t, c.text, c.e, c.at)
	}
}

// TestLineNumbers: empty lines and remarks count.
func TestLineNumbers(t *testing.T) {
	for n := range 50 {
		ahead := strings.Repeat("\n", n/2) + strings.Repeat("; ?\n", n-n/2)
		wantFault(t, ahead+"?", api.ErrSyntax, n+1)
		wantFault(t, ahead+"func f", api.ErrEnd, n+1)
		wantFault(t, "func f\n"+ahead+"mov r10, 1\nexit", api.ErrRange, n+2)
		wantFault(t, "func f\n"+ahead+"ja x"+strconv.Itoa(n)+"\nexit", api.ErrNone, n+2)
	}
}
