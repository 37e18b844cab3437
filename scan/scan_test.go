package scan

import "testing"

func read(t *testing.T, text string) Line {
	t.Helper()
	l, ok := New(text)
	if !ok {
		t.Fatalf("New(%q)", text)
	}
	return l
}

func TestBytesOfALine(t *testing.T) {
	for b := range 256 {
		for _, s := range []string{string([]byte{byte(b)}), ";" + string([]byte{byte(b)})} {
			if _, ok := New(s); ok != (b >= 32 && b <= 126) {
				t.Errorf("New(%q): %v", s, ok)
			}
		}
	}
}

func TestParts(t *testing.T) {
	l := read(t, "  ab_1 r10,-7[ 0x1f ]x ; z")
	if w := l.Word(); w != "ab_1" {
		t.Errorf("%q", w)
	}
	if r, ok := l.Register(); r != 10 || !ok {
		t.Errorf("%d, %v", r, ok)
	}
	if l.Mark('[') || !l.Mark(',') {
		t.Error("the comma")
	}
	if n, ok := l.Number(); n != (Number{minus: true, size: 7}) || !ok {
		t.Errorf("%v, %v", n, ok)
	}
	if !l.Mark('[') {
		t.Error("the bracket")
	}
	if n, ok := l.Digits(); n != (Number{size: 31}) || !ok {
		t.Errorf("%v, %v", n, ok)
	}
	if !l.Mark(']') || l.Done() {
		t.Error("the end of the bracket")
	}
	if s, ok := l.Name(); s != "x" || !ok || !l.Done() || l.Word() != "" || l.Mark(';') {
		t.Errorf("%q, %v", s, ok)
	}
}

// A copy reads on by itself.
func TestCopies(t *testing.T) {
	l := read(t, "a b")
	ahead := l
	if ahead.Word() != "a" || ahead.Word() != "b" || l.Word() != "a" {
		t.Error("a copy has moved the line")
	}
}

func TestSigned(t *testing.T) {
	for _, c := range []struct {
		text string
		bits int
		want int64
		ok   bool
	}{
		{"32767", 16, 32767, true}, {"32768", 16, 0, false}, {"-32768", 16, -32768, true}, {"-32769", 16, 0, false},
		{"9223372036854775807", 64, 9223372036854775807, true}, {"9223372036854775808", 64, 0, false},
		{"-9223372036854775808", 64, -9223372036854775808, true}, {"-9223372036854775809", 64, 0, false},
		{"18446744073709551616", 16, 0, false}, {"-18446744073709551616", 16, 0, false}, {"-0", 16, 0, true},
	} {
		l := read(t, c.text)
		n, ok := l.Number()
		if v, fits := n.Signed(c.bits); !ok || v != c.want || fits != c.ok {
			t.Errorf("%s in %d bits: %d, %v", c.text, c.bits, v, fits)
		}
	}
}

func TestNoNumbers(t *testing.T) {
	for _, s := range []string{"", "x", "0x", "0xG", "1a", "- 1", "--1", "+1", "123456789012345678901", "0x1234567890123456789"} {
		l := read(t, s)
		if n, ok := l.Number(); ok {
			t.Errorf("%q: %v", s, n)
		}
	}
	l := read(t, "-1")
	if n, ok := l.Digits(); ok {
		t.Errorf("digits with a sign: %v", n)
	}
}
