package spool_test

import (
	"strings"
	"testing"

	"spool/api"
	"spool/spool"
)

var (
	neg   = slot(13, 1, 0, 0, 0)
	call  = slot(193, 0, 1, 0, 0)
	blank = slot(0, 0, 0, 0, 0)
	inMap = slot(192, 2, 1, 0, 0) + blank
)

// ample: an object with something of each sort.
func ample() string {
	f := slot(65, 1, 10, 1, 0) + call + slot(131, 0, 10, -8, 0) + inMap + slot(192, 3, 0, 0, -1) + slot(0, 0, 0, 0, 1) + slot(107, 10, 0, -8, -3) + slot(138, 10, 0, 4, 9) + slot(193, 0, 0, 0, 2) + exit
	g := slot(64, 0, 0, 0, 0) + inMap + slot(34, 1, 0, 0, 1) + slot(60, 1, 0, 0, 63) + call + slot(64, 0, 0, -2, 0)
	return object([]sized{{"a", 1, 16, 8}, {"ab", 8, 1, 1}}, []fun{{"f", f}, {"g_1", g}}, ref{0, 1, "g_1"}, ref{0, 3, "ab"}, ref{1, 1, "a"}, ref{1, 5, "nowhere"})
}

const ampleText = "map a 1 16 8\nmap ab 8 1 1\nfunc f\nl0:\n  jeq r1, r10, l1\n  call g_1\nl1:\n  ld8 r0, [r10-8]\n  wide r2, map ab\n  wide r3, 8589934591\n  jset r10, -3, l0\n  st4 [r10+4], 9\n  help put\n  exit\nfunc g_1\n  ja l0\nl0:\n  wide r2, map a\n  add r1, 1\n  ash32 r1, 63\nl1:\n  call nowhere\n  ja l1\n"

func TestAmple(t *testing.T) {
	wantBoth(t, ampleText, ample())
}

// cutAndMore: each of the list with bytes missing at an end, and with more.
func cutAndMore(list []string, use func(s string)) {
	for _, o := range list {
		for n := range len(o) {
			use(o[:n])
			use(o[n+1:])
		}
		for _, more := range []string{"\x00", "\x01", "\xff", " ", o, exit} {
			use(o + more)
			use(more + o)
		}
	}
}

func TestCutShortAndMore(t *testing.T) {
	cutAndMore([]string{ample(), only(exit), object(nil, nil), object([]sized{{"m", 1, 1, 1}}, nil)}, func(s string) { wantBad(t, s) })
}

// TestOneByteChanged: what is still right is told, and its text is the source
// of just these bytes; nothing else is.
func TestOneByteChanged(t *testing.T) {
	t.Parallel()
	o := ample()
	right := 0
	for n := range len(o) {
		for b := range 256 {
			changed := o[:n] + string([]byte{byte(b)}) + o[n+1:]
			s, e := spool.Disassemble(changed)
			switch {
			case e == api.OK:
				right++
				wantObject(t, s, changed)
			case e != api.ErrBytes || s != "":
				t.Errorf("P4: byte %d as %d: %q, %d", n, b, s, e)
			}
		}
		if t.Failed() {
			t.FailNow()
		}
	}
	if right <= len(o) {
		t.Errorf("P4: no changed byte is right: %d", right-len(o))
	}
}

func TestOneByteMissingOrAdded(t *testing.T) {
	o := ample()
	for n := range len(o) {
		if s, e := spool.Disassemble(o[:n] + o[n+1:]); e == api.OK {
			wantObject(t, s, o[:n]+o[n+1:])
		}
		for _, b := range []string{"\x00", "\x01", "a", "\xc2"} {
			if s, e := spool.Disassemble(o[:n] + b + o[n:]); e == api.OK {
				wantObject(t, s, o[:n]+b+o[n:])
			}
		}
	}
}

func TestHeads(t *testing.T) {
	o := only(exit)
	for _, s := range []string{"", "SPOL", "spol\x01\x00\x00\x00\x00", "SPOL\x00" + o[5:], "SPOL\x02" + o[5:], "SPOL\x02" + o[5:len(o)-2], "SPOL\x03" + o[5:], "LOPS" + o[4:], "func f\nexit\n"} {
		wantBad(t, s)
	}
	wantText(t, "SPOL\x01\x00\x00\x00\x00", "")
}

func TestMapBytes(t *testing.T) {
	of := func(l ...sized) string { return object(l, nil) }
	wantText(t, of(sized{"a", 8, 16, 8}, sized{"b", 1, 1, 1}), "map a 8 16 8\nmap b 1 1 1\n")
	for _, m := range []sized{{"m", 0, 1, 1}, {"m", 9, 1, 1}, {"m", 255, 1, 1}, {"m", 1, 0, 1}, {"m", 1, 17, 1}, {"m", 1, 1, 0}, {"m", 1, 1, 9}, {"m", 128, 128, 128}, {"", 1, 1, 1}, {"M", 1, 1, 1}, {"1", 1, 1, 1}, {"_", 1, 1, 1}, {"m ", 1, 1, 1}, {"m\x00", 1, 1, 1}, {"abcdefghijklmnopq", 1, 1, 1}, {strings.Repeat("a", 255), 1, 1, 1}} {
		wantBad(t, of(m))
	}
	wantBad(t, of(sized{"b", 1, 1, 1}, sized{"a", 1, 1, 1}))
	wantBad(t, of(sized{"a", 1, 1, 1}, sized{"a", 1, 1, 1}))
	wantBad(t, of(sized{"ab", 1, 1, 1}, sized{"a", 1, 1, 1}))
	wantBad(t, of(sized{"a_", 1, 1, 1}, sized{"a0", 1, 1, 1}))
	wantText(t, of(sized{"a", 1, 1, 1}, sized{"a0", 1, 1, 1}, sized{"a_", 1, 1, 1}, sized{"aa", 1, 1, 1}), "map a 1 1 1\nmap a0 1 1 1\nmap a_ 1 1 1\nmap aa 1 1 1\n")
	var many []sized
	for n := range 9 {
		many = append(many, sized{string(rune('a' + n)), 1, 1, 1})
	}
	wantText(t, of(many[:8]...), numbered(8, "map # 1 1 1"))
	wantBad(t, of(many...))
}

func TestFunctionBytes(t *testing.T) {
	of := func(l ...fun) string { return object(nil, l) }
	wantText(t, of(fun{"a", exit}, fun{"a0", exit}, fun{"a_", exit}, fun{"aa", exit}), "func a\n  exit\nfunc a0\n  exit\nfunc a_\n  exit\nfunc aa\n  exit\n")
	for _, name := range []string{"", "F", "1", "_", "f ", "f\x00", "abcdefghijklmnopq"} {
		wantBad(t, of(fun{name, exit}))
	}
	wantBad(t, of(fun{"f", ""}))
	wantBad(t, of(fun{"f", exit}, fun{"g", ""}))
	wantBad(t, of(fun{"f", ""}, fun{"g", exit}))
	wantBad(t, of(fun{"g", exit}, fun{"f", exit}))
	wantBad(t, of(fun{"f", exit}, fun{"f", exit}))
	wantBad(t, of(fun{"fa", exit}, fun{"f", exit}))
	var many []fun
	for n := range 17 {
		many = append(many, fun{string(rune('a' + n)), exit})
	}
	wantText(t, of(many[:16]...), numbered(16, "func #\n  exit"))
	wantBad(t, of(many...))

	wantText(t, only(strings.Repeat(exit, 200)), "func f\n"+lines(200, "  exit"))
	wantBad(t, only(strings.Repeat(exit, 201)))
	wantBad(t, only(strings.Repeat(exit, 256)))
	wantBad(t, only(strings.Repeat(exit, 456)))
	wantText(t, of(fun{"f", strings.Repeat(exit, 100)}, fun{"g", strings.Repeat(exit, 100)}), "func f\n"+lines(100, "  exit")+"func g\n"+lines(100, "  exit"))
	wantBad(t, of(fun{"f", strings.Repeat(exit, 100)}, fun{"g", strings.Repeat(exit, 101)}))
	wantBad(t, "SPOL\x01\x00\x02\x01f\xff\xff\x01g\xff\xff"+strings.Repeat(exit, 200)+"\x00\x00")
}

// TestLongText: an object's text is told whole, also if no text may be so long.
func TestLongText(t *testing.T) {
	one := slot(192, 1, 0, 0, -1) + slot(0, 0, 0, 0, -1)
	want := "func f\n" + lines(99, "  wide r1, 18446744073709551615") + "  exit\n"
	wantText(t, only(strings.Repeat(one, 99)+exit), want)
	long := slot(107, 10, 0, -1, -2147483648)
	want = "func f\n"
	for _, d := range strings.Fields("0 1 2 3 4 5 6 7 8 9") {
		for _, u := range strings.Fields("0 1 2 3 4 5 6 7 8 9") {
			l := "l" + strings.TrimPrefix(d, "0") + u
			want += l + ":\n  jset r10, -2147483648, " + l + "\n"
		}
	}
	for n := range 99 {
		l := "l1" + string(rune('0'+n/10)) + string(rune('0'+n%10))
		want += l + ":\n  jset r10, -2147483648, " + l + "\n"
	}
	want += "  exit\n"
	if len(want) <= api.MaxText {
		t.Fatal(len(want))
	}
	wantText(t, only(strings.Repeat(long, 199)+exit), want)
	wantFault(t, want, api.ErrLimit, 0)
}

func TestHowFunctionsEnd(t *testing.T) {
	ja := func(n int) string { return slot(64, 0, 0, n, 0) }
	wantText(t, only(neg+ja(-2)), "func f\nl0:\n  neg r1\n  ja l0\n")
	for _, s := range []string{neg, exit + neg, exit + slot(65, 1, 1, -1, 0), exit + slot(97, 1, 0, -1, 0), exit + slot(193, 0, 0, 0, 4), exit + slot(192, 1, 0, 0, 1) + blank, slot(192, 1, 0, 0, 1) + slot(0, 0, 0, 0, 194), exit + slot(192, 1, 0, 0, 1), slot(192, 1, 0, 0, 1) + exit} {
		wantBad(t, only(s))
	}
	wantBad(t, only(exit+call, ref{0, 1, "f"}))
	wantBad(t, object([]sized{{"m", 1, 1, 1}}, []fun{{"f", exit + inMap}}, ref{0, 1, "m"}))
	wantBad(t, object(nil, []fun{{"f", neg}, {"g", exit}}))
}

func TestSecondSlots(t *testing.T) {
	wide := slot(192, 1, 0, 0, 5)
	wantText(t, only(wide+"\x00\x00\x00\x00\x00\x00\x00\x01"+exit), "func f\n  wide r1, 72057594037927941\n  exit\n")
	for n := range 4 {
		for _, b := range []byte{1, 16, 128, 255} {
			second := []byte(blank)
			second[n] = b
			wantBad(t, only(wide+string(second)+exit))
		}
	}
	of := func(slots string) string {
		return object([]sized{{"m", 1, 1, 1}}, []fun{{"f", slots + exit}}, ref{0, 0, "m"})
	}
	wantText(t, of(inMap), "map m 1 1 1\nfunc f\n  wide r2, map m\n  exit\n")
	for n := range 8 {
		second := []byte(blank)
		second[n] = 1
		wantBad(t, of(inMap[:8]+string(second)))
	}
	wantBad(t, of(slot(192, 2, 1, 0, 1)+blank))
	wantBad(t, of(slot(192, 2, 1, 1, 0)+blank))
	wantBad(t, of(slot(192, 2, 2, 0, 0)+blank))
}

func TestWhereJumpsLead(t *testing.T) {
	wide := slot(192, 1, 0, 0, 5) + blank
	for _, op := range []int{64, 65, 75, 97, 107} {
		jump := func(n int) string { return slot(op, 0, 0, n, 0) }
		for _, s := range []string{jump(0) + exit, jump(-1) + exit, jump(1) + neg + exit, neg + jump(-2) + exit, wide + jump(-3) + exit, jump(2) + wide + exit, jump(0) + wide + exit} {
			if text, e := spool.Disassemble(only(s)); e != api.OK {
				t.Errorf("P4: op %d: %q, %d", op, text, e)
			}
		}
		for _, s := range []string{jump(1) + exit, jump(-2) + exit, jump(2) + exit, jump(32767) + exit, jump(-32768) + exit, jump(1) + wide + exit, wide + jump(-2) + exit, neg + jump(-3) + exit, jump(255) + exit, jump(256) + exit} {
			wantBad(t, only(s))
		}
		wantBad(t, object(nil, []fun{{"f", jump(1) + exit}, {"g", exit}}))
		wantBad(t, object(nil, []fun{{"f", exit}, {"g", jump(-2) + exit}}))
	}
	wantBad(t, only(slot(64, 0, 0, 0, 0)))
	wantText(t, only(slot(128, 1, 2, 9, 0)+slot(136, 1, 0, -9, 0)+exit), "func f\n  ld1 r1, [r2+9]\n  st1 [r1-9], 0\n  exit\n")
}

func TestReferences(t *testing.T) {
	maps := []sized{{"m", 1, 1, 1}}
	funcs := []fun{{"f", call + inMap + call + exit}, {"g", exit}, {"h", call + exit}}
	of := func(l ...ref) string { return object(maps, funcs, l...) }
	a, b, c, d := ref{0, 0, "g"}, ref{0, 1, "m"}, ref{0, 3, "none"}, ref{2, 0, "m"}
	wantText(t, of(a, b, c, d), "map m 1 1 1\nfunc f\n  call g\n  wide r2, map m\n  call none\n  exit\nfunc g\n  exit\nfunc h\n  call m\n  exit\n")
	for _, l := range [][]ref{
		{}, {a}, {a, b, c}, {b, c, d}, {a, c, d}, {a, b, d}, // one is missing
		{a, b, c, d, d}, {a, a, b, c, d}, {a, b, c, d, {2, 1, "m"}}, {a, b, {0, 2, "m"}, c, d}, {a, b, c, {1, 0, "f"}, d}, {a, b, c, d, {3, 0, "f"}}, // one too many
		{b, a, c, d}, {d, a, b, c}, {a, c, b, d}, {a, b, d, c}, // not in order
		{{1, 0, "g"}, b, c, d}, {{0, 4, "g"}, b, c, d}, {{0, 256, "g"}, b, c, d}, {a, b, {0, 2, "none"}, d}, {a, {0, 2, "m"}, c, d}, {a, b, c, {2, 1, "m"}}, {a, b, c, {3, 0, "m"}}, // elsewhere
		{a, {0, 1, "none"}, c, d}, {a, {0, 1, "g"}, c, d}, {a, {0, 1, "mm"}, c, d}, {a, {0, 1, ""}, c, d}, // no map of the object's
		{{0, 0, ""}, b, c, d}, {{0, 0, "G"}, b, c, d}, {{0, 0, "abcdefghijklmnopq"}, b, c, d}, {a, b, c, {2, 0, "_"}}, // no names
	} {
		wantBad(t, of(l...))
	}
	wantBad(t, only(exit, ref{0, 0, "f"}))
	wantBad(t, only(slot(193, 0, 0, 0, 1)+exit, ref{0, 0, "f"}))
	wantBad(t, only(slot(192, 1, 0, 0, 0)+blank+exit, ref{0, 0, "f"}))
	wantBad(t, only(call+exit))
	wantBad(t, only(slot(193, 0, 1, 0, 1)+exit, ref{0, 0, "g"}))
	wantBad(t, only(slot(193, 0, 1, 0, -1)+exit, ref{0, 0, "g"}))
	wantBad(t, only(slot(193, 0, 2, 0, 0)+exit, ref{0, 0, "g"}))
	wantBad(t, object(nil, nil)[:7]+"\x01\x00")
	right := only(call+exit, ref{0, 0, "abcdefghijklmnop"})
	wantText(t, right, "func f\n  call abcdefghijklmnop\n  exit\n")
	at := strings.LastIndex(right, "\x01\x00\x00\x00\x00\x10")
	for _, count := range []int{0, 2, 256, 257, 65535} {
		wantBad(t, right[:at]+two(count)+right[at+2:])
	}
}

// As many references as there is room for.
func TestManyReferences(t *testing.T) {
	var refs []ref
	for n := range 199 {
		refs = append(refs, ref{0, n, "g"})
	}
	wantBoth(t, "func f\n"+lines(199, "  call g")+"  exit\n", only(strings.Repeat(call, 199)+exit, refs...))
}
