package spool_test

import (
	"math/rand"
	"strings"
	"sync"
	"testing"
	"unsafe"

	"spool/api"
	"spool/spool"
)

// checkAssemble: P1 of Assemble at any text, and what follows from P3 and P4.
func checkAssemble(t *testing.T, text string) {
	t.Helper()
	o, e, at := spool.Assemble(text)
	switch {
	case e == api.OK:
		if at != 0 || o == "" {
			t.Errorf("P1: Assemble(%q) = %x, %d, %d", text, o, e, at)
		}
		checkRight(t, o)
	case o != "" || e < api.OK || e > api.ErrEnd:
		t.Errorf("P1: Assemble(%q) = %x, %d, %d", text, o, e, at)
	case (at == 0) != (len(text) > api.MaxText) || at < 0 || at > strings.Count(text, "\n")+1:
		t.Errorf("P1: Assemble(%q): error %d at line %d", text, e, at)
	}
}

func checkRight(t *testing.T, o string) {
	t.Helper()
	s, e := spool.Disassemble(o)
	if e != api.OK {
		t.Errorf("P3: the object %x is not right: %d", o, e)
	} else if len(s) <= api.MaxText {
		wantObject(t, s, o)
	}
}

// checkDisassemble: P1 of Disassemble at any bytes, and what follows from P4.
func checkDisassemble(t *testing.T, o string) {
	t.Helper()
	s, e := spool.Disassemble(o)
	switch {
	case e == api.OK && len(s) <= api.MaxText:
		wantObject(t, s, o)
	case e != api.OK && (e != api.ErrBytes || s != ""):
		t.Errorf("P1: Disassemble(%x) = %q, %d", o, s, e)
	}
}

func TestAnyTexts(t *testing.T) {
	t.Parallel()
	r := rand.New(rand.NewSource(1))
	pieces := append(reserved(), " ", " ", " ", "\n", "\n", "\n", ",", ", ", ":", "[", "]", "+", "-", ";", "0x", "1", "7", "12", "32768", "2147483648", "18446744073709551616", "m", "x", "f", "get", "\nfunc f\n", "\nfunc g\nx:\n", "\nmap m 1 2 3\n", "\nexit", "\nja x", "\nwide r1, map m", "\ncall f", "\njeq r10, -1, x", "\nst4 [r1-4], 1", "?", "\x00", "\xff")
	for range 4000 {
		var s strings.Builder
		for range r.Intn(40) {
			s.WriteString(pieces[r.Intn(len(pieces))])
		}
		checkAssemble(t, s.String())
	}
	for range 2000 {
		b := []byte(ampleText)
		for range 1 + r.Intn(3) {
			b[r.Intn(len(b))] = byte(32 + r.Intn(95))
		}
		checkAssemble(t, string(b))
	}
	for _, s := range []string{"", "\x00", strings.Repeat("\n", 5000), strings.Repeat("func f\n", 571), strings.Repeat("x:\n", 1333), "func f" + strings.Repeat("\nx:", 1000), strings.Repeat("map m 1 1 1\n", 333), strings.Repeat("-", 4000), strings.Repeat("[", 4000), strings.Repeat("9", 4000), strings.Repeat("a", 4000), strings.Repeat("x", 1<<20)} {
		checkAssemble(t, s)
	}
}

// anyBytes: at random: those of the base with some changed, and others, which
// begin with the head or not.
func anyBytes(seed int64, head string, base []string, use func(s string)) {
	r := rand.New(rand.NewSource(seed))
	for range 6000 {
		b := []byte(base[r.Intn(len(base))])
		for range 1 + r.Intn(4) {
			b[r.Intn(len(b))] = byte(r.Intn(256) & r.Intn(256))
		}
		use(string(b[:len(b)-r.Intn(2)*r.Intn(len(b))]))
	}
	for range 3000 {
		b := make([]byte, r.Intn(60))
		r.Read(b)
		use(string(b))
		use(head + string(b))
		use(head + "\x00\x01\x01f\x01\x00" + string(b))
	}
	for _, s := range []string{"", strings.Repeat("\x00", 1<<20), strings.Repeat("\xff", 1<<20), head + strings.Repeat("\xff", 1<<20), head + "\x00\xff" + strings.Repeat("\x01f\xff\xff", 1<<18)} {
		use(s)
	}
}

func TestAnyBytes(t *testing.T) {
	t.Parallel()
	base := []string{ample(), only(exit), object(nil, nil), only(call+exit, ref{0, 0, "g"})}
	anyBytes(2, "SPOL\x01", base, func(s string) { checkDisassemble(t, s) })
}

// TestTextsOfEveryKind: right programs at random, told and read again.
func TestTextsOfEveryKind(t *testing.T) {
	r := rand.New(rand.NewSource(3))
	lines := []string{"mov r1, r2", "sub32 r9, -7", "neg32 r0", "x#:", "jsgt r1, r10, x0", "jlt r10, 5, x1", "ja x2", "ld2 r1, [r10-2]", "st8 [r10+7], r9", "st1 [r0], 255", "wide r1, 0xffffffffff", "wide r2, map m", "call f", "call q", "help log", "exit"}
	for range 300 {
		text := "map m 1 2 3\n"
		for _, name := range []string{"g", "f", "h"}[:1+r.Intn(3)] {
			text += "func " + name + "\n"
			next := 0
			for range r.Intn(20) {
				l := lines[r.Intn(len(lines))]
				if l == "x#:" {
					l = "x" + string(rune('0'+next)) + ":"
					next = min(next+1, 9)
				}
				if next < 9 || l != "x9:" {
					text += l + "\n"
				}
			}
			for n := next; n < 3; n++ {
				text += "x" + string(rune('0'+n)) + ":\n"
			}
			text += "exit\n"
		}
		if _, e, _ := spool.Assemble(text); e != api.OK {
			t.Errorf("P3: Assemble(%q): %d", text, e)
		}
		checkAssemble(t, text)
	}
}

// wantSame: P2: calls ahead, and calls at the same time, change nothing in
// what is answered to any of n questions.
func wantSame[answer comparable](t *testing.T, n int, ask func(question int) answer) {
	t.Helper()
	var first []answer
	for i := range n {
		first = append(first, ask(i))
	}
	var all sync.WaitGroup
	for k := range 8 {
		all.Go(func() {
			for step := range 50 {
				i := (step*(k+1) + k) % n
				if a := ask(i); a != first[i] {
					t.Errorf("P2: question %d: %v, and then %v", i, first[i], a)
				}
			}
		})
	}
	all.Wait()
}

func TestSameAnswers(t *testing.T) {
	texts := []string{ampleText, "func f\nexit", "map a 1 1 1\nfunc b\nx:\nja x", "func f\nja x", "?", "map a 1 1 1\nmap a 1 1 1", ""}
	type answer struct {
		object, told string
		e            api.Errno
		at           int
	}
	wantSame(t, len(texts), func(n int) (a answer) {
		a.object, a.e, a.at = spool.Assemble(texts[n])
		a.told, _ = spool.Disassemble(a.object)
		return a
	})
}

// TestNothingKept: P2: what is handed in may change when the call is over.
func TestNothingKept(t *testing.T) {
	text := []byte(ampleText)
	o, _, _ := spool.Assemble(unsafe.String(&text[0], len(text)))
	clear(text)
	if o != ample() {
		t.Errorf("P2: the object is in the text's memory: %x", o)
	}
	bytes := []byte(ample())
	s, _ := spool.Disassemble(unsafe.String(&bytes[0], len(bytes)))
	clear(bytes)
	if s != ampleText {
		t.Errorf("P2: the text is in the object's memory: %q", s)
	}
	wantBoth(t, ampleText, ample())
}

func FuzzAssemble(f *testing.F) {
	f.Add(ampleText)
	f.Add("func f\nexit")
	f.Fuzz(checkAssemble)
}

func FuzzDisassemble(f *testing.F) {
	f.Add(ample())
	f.Add(only(exit))
	f.Fuzz(checkDisassemble)
}
