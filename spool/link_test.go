package spool_test

import (
	"slices"
	"strings"
	"testing"

	"spool/api"
	"spool/spool"
)

func callOf(number int) string { return slot(193, 0, 1, 0, number) }

func mapOf(number int) string { return slot(192, 2, 1, 0, number) + blank }

// empty: an object of one function that only goes back.
func empty(name string) string { return object(nil, []fun{{name, exit}}) }

// caller: an object of one function that calls another.
func caller(name, called string) string {
	return object(nil, []fun{{name, call + exit}}, ref{0, 0, called})
}

func ofMaps(l ...sized) string { return object(l, nil) }

// letters: objects of which each is made for a name of its own; the names rise.
func letters(n int, of func(name string) string) []string {
	var out []string
	for k := range n {
		out = append(out, of(string(rune('a'+k))))
	}
	return out
}

func TestLinkOne(t *testing.T) {
	wantImage(t, "SPOL\x02\x00\x00", object(nil, nil))
	wantImage(t, "SPOL\x02\x01\x01m\x01\x02\x03\x00", ofMaps(sized{"m", 1, 2, 3}))
	wantImage(t, "SPOL\x02\x00\x01\x01f\x01\x00"+exit, empty("f"))
	wantImage(t, "SPOL\x02\x00\x01\x01f\x02\x00\xc1\x10\x00\x00\x00\x00\x00\x00"+exit, caller("f", "f"))

	maps := []sized{{"a", 8, 16, 8}, {"b", 1, 1, 1}, {"c", 2, 3, 4}}
	funcs := func(c, b, h, g, f string) []fun {
		return []fun{{"f", c + neg + b + h + exit}, {"g", exit}, {"h", g + f + exit}}
	}
	wantImage(t, image(maps, funcs(mapOf(2), mapOf(1), callOf(2), callOf(1), callOf(0))),
		object(maps, funcs(inMap, inMap, call, call, call), ref{0, 0, "c"}, ref{0, 3, "b"}, ref{0, 5, "h"}, ref{2, 0, "g"}, ref{2, 1, "f"}))
}

// TestLinkLeavesTheRest: numbers, jumps and helpers stay as they are, whatever
// the number of their function becomes.
func TestLinkLeavesTheRest(t *testing.T) {
	code := slot(64, 0, 0, 0, 0) + slot(192, 3, 0, 0, 1) + slot(0, 0, 0, 0, -1) + slot(34, 1, 0, 0, -1) + slot(98, 10, 0, -4, 1) + slot(131, 0, 10, -8, 0) + slot(138, 10, 0, 4, 1)
	for n := 1; n <= 4; n++ {
		code += slot(193, 0, 0, 0, n)
	}
	code += slot(17, 1, 1, 0, 0) + slot(64, 0, 0, -13, 0)
	wantImage(t, image(nil, []fun{{"a", exit}, {"b", code}, {"c", exit}}), object(nil, []fun{{"b", code}}), empty("c"), empty("a"))
}

func TestLinkSeveral(t *testing.T) {
	p, q, r := sized{"p", 1, 2, 3}, sized{"q", 8, 16, 8}, sized{"r", 1, 1, 1}
	one := object([]sized{q, r}, []fun{{"d", inMap + call + call + exit}}, ref{0, 0, "q"}, ref{0, 2, "a"}, ref{0, 3, "d"})
	other := object([]sized{p, r}, []fun{{"a", call + inMap + exit}, {"e", inMap + call + exit}}, ref{0, 0, "e"}, ref{0, 1, "r"}, ref{1, 0, "p"}, ref{1, 2, "d"})
	third := object([]sized{p, q}, []fun{{"b", call + exit}, {"c", exit}}, ref{0, 0, "c"})
	want := image([]sized{p, q, r}, []fun{
		{"a", callOf(4) + mapOf(2) + exit},
		{"b", callOf(2) + exit},
		{"c", exit},
		{"d", mapOf(1) + callOf(0) + callOf(3) + exit},
		{"e", mapOf(0) + callOf(3) + exit},
	})
	everyOrder([]string{one, other, third}, func(l []string) { wantImage(t, want, l...) })
	everyOrder([]string{one, other, third, ofMaps(p, q, r), object(nil, nil)}, func(l []string) { wantImage(t, want, l...) })
}

// everyOrder: all orders of the list.
func everyOrder(l []string, use func(l []string)) {
	if len(l) == 0 {
		use(nil)
	}
	for n, s := range l {
		rest := slices.Delete(slices.Clone(l), n, n+1)
		everyOrder(rest, func(behind []string) { use(append([]string{s}, behind...)) })
	}
}

// TestLinkedNames: names rise byte by byte over all objects; maps and functions
// have names apart.
func TestLinkedNames(t *testing.T) {
	long := "abcdefghijklmnop"
	rising := []string{"a", "a0", "a_", "aa", long, "b", "z9"}
	var maps []sized
	var funcs []fun
	var list []string
	for n, name := range rising {
		maps = append(maps, sized{name, 1 + n%8, 1 + n, 1})
		funcs = append(funcs, fun{name, callOf(n) + mapOf(n) + exit})
		list = append(list, object(maps[n:], []fun{{name, call + inMap + exit}}, ref{0, 0, name}, ref{0, 1, name}))
	}
	maps = maps[:len(rising)]
	for n := range list {
		wantImage(t, image(maps, funcs), slices.Concat(list[n:], list[:n])...)
	}
	slices.Reverse(list)
	wantImage(t, image(maps, funcs), list...)
	wantImage(t, image([]sized{{"f", 1, 1, 1}}, []fun{{"f", exit}}), ofMaps(sized{"f", 1, 1, 1}), empty("f"))
	wantUnlinked(t, api.ErrNone, 1, ofMaps(sized{"f", 1, 1, 1}), caller("g", "f"))
}

func TestMaxObjects(t *testing.T) {
	wantUnlinked(t, api.ErrArgs, 0)
	wantUnlinked(t, api.ErrArgs, 0, []string{}...)
	none := object(nil, nil)
	for n := 1; n <= 40; n++ {
		list := slices.Repeat([]string{none}, n)
		if n <= 8 {
			wantImage(t, "SPOL\x02\x00\x00", list...)
		} else {
			wantUnlinked(t, api.ErrArgs, 0, list...)
		}
	}
	wantUnlinked(t, api.ErrArgs, 0, letters(9, empty)...)
	wantImage(t, "SPOL\x02\x00\x08"+"\x01a\x01\x00\x01b\x01\x00\x01c\x01\x00\x01d\x01\x00\x01e\x01\x00\x01f\x01\x00\x01g\x01\x00\x01h\x01\x00"+strings.Repeat(exit, 8), letters(8, empty)...)
}

func TestMaxMapsOfAll(t *testing.T) {
	var maps []sized
	for n := range 9 {
		maps = append(maps, sized{string(rune('a' + n)), 1 + n%8, 9, 1})
	}
	want := image(maps[:8], nil)
	wantImage(t, want, ofMaps(maps[:8]...))
	wantImage(t, want, ofMaps(maps[4:8]...), ofMaps(maps[:4]...))
	wantImage(t, want, ofMaps(maps[:8]...), ofMaps(maps[:8]...), ofMaps(maps[2:6]...))
	wantImage(t, want, ofMaps(maps[:6]...), ofMaps(maps[2:8]...))
	wantUnlinked(t, api.ErrLimit, 0, ofMaps(maps[:8]...), ofMaps(maps[8]))
	wantUnlinked(t, api.ErrLimit, 0, ofMaps(maps[0]), ofMaps(maps[1:]...))
	wantUnlinked(t, api.ErrLimit, 0, ofMaps(maps[:6]...), ofMaps(maps[2:8]...), ofMaps(maps[8]))
	last := object(maps[:8], []fun{{"f", inMap + exit}}, ref{0, 0, "h"})
	wantImage(t, image(maps[:8], []fun{{"f", mapOf(7) + exit}}), last)
}

func TestMaxFuncsOfAll(t *testing.T) {
	var funcs []fun
	for n := range 17 {
		funcs = append(funcs, fun{string(rune('a' + n)), exit})
	}
	of := func(l []fun) string { return object(nil, l) }
	wantImage(t, image(nil, funcs[:16]), of(funcs[:16]))
	wantImage(t, image(nil, funcs[:16]), of(funcs[8:16]), of(funcs[:8]))
	wantImage(t, image(nil, funcs[:16]), of(funcs[:1]), of(funcs[15:16]), of(funcs[1:15]))
	wantUnlinked(t, api.ErrLimit, 0, of(funcs[:16]), of(funcs[16:]))
	wantUnlinked(t, api.ErrLimit, 0, of(funcs[:8]), of(funcs[8:]))
	wantUnlinked(t, api.ErrLimit, 0, object(nil, nil), of(funcs[16:]), of(funcs[:16]))
	funcs[0].slots = callOf(15) + exit
	wantImage(t, image(nil, funcs[:16]), of(funcs[1:16]), caller("a", "p"))

	var many []string
	for n := range 8 {
		var l []fun
		for k := range 16 {
			l = append(l, fun{string(rune('a'+k)) + string(rune('a'+n)), exit})
		}
		many = append(many, of(l))
	}
	wantUnlinked(t, api.ErrLimit, 0, many...)
}

func TestMaxSlotsOfAll(t *testing.T) {
	of := func(name string, n int) fun { return fun{name, strings.Repeat(exit, n)} }
	alone := func(f fun) string { return object(nil, []fun{f}) }
	wantImage(t, image(nil, []fun{of("f", 200)}), alone(of("f", 200)))
	wantImage(t, image(nil, []fun{of("f", 1), of("g", 199)}), alone(of("g", 199)), alone(of("f", 1)))
	wantImage(t, image(nil, []fun{of("f", 200)}), alone(of("f", 200)), object(nil, nil))
	wantUnlinked(t, api.ErrLimit, 0, alone(of("g", 200)), alone(of("f", 1)))
	wantUnlinked(t, api.ErrLimit, 0, alone(of("f", 100)), alone(of("g", 101)))
	wantUnlinked(t, api.ErrLimit, 0, letters(8, func(name string) string { return alone(of(name, 200)) })...)

	wide := slot(192, 1, 0, 0, 5) + blank
	wantImage(t, image(nil, []fun{of("f", 101), {"g", strings.Repeat(wide, 49) + exit}}), alone(of("f", 101)), alone(fun{"g", strings.Repeat(wide, 49) + exit}))
	wantUnlinked(t, api.ErrLimit, 0, alone(of("f", 102)), alone(fun{"g", strings.Repeat(wide, 49) + exit}))

	list := letters(8, func(name string) string { return alone(of(name, 25)) })
	if i, e, at := spool.Link(list...); e != api.OK || at != 0 || !strings.HasSuffix(i, strings.Repeat(exit, 200)) {
		t.Errorf("P5: 8 times 25 slots: %x, %d, %d", i, e, at)
	}
	list[3] = alone(of("x", 26))
	wantUnlinked(t, api.ErrLimit, 0, list...)
}

func TestLinkTwice(t *testing.T) {
	f, g, both := empty("f"), empty("g"), object(nil, []fun{{"f", exit}, {"g", exit}})
	wantUnlinked(t, api.ErrTwice, 1, f, f)
	wantUnlinked(t, api.ErrTwice, 1, f, caller("f", "f"))
	wantUnlinked(t, api.ErrTwice, 2, f, g, f)
	wantUnlinked(t, api.ErrTwice, 2, g, f, both)
	wantUnlinked(t, api.ErrTwice, 1, both, f, g)
	wantUnlinked(t, api.ErrTwice, 3, object(nil, nil), both, empty("fg"), g)
	wantUnlinked(t, api.ErrTwice, 7, slices.Concat(letters(7, empty), []string{empty("a")})...)
	wantUnlinked(t, api.ErrTwice, 2, f, object(nil, []fun{{"a", exit}, {"z", exit}}), object(nil, []fun{{"b", exit}, {"z", exit}}), f)
}

func TestLinkOtherMaps(t *testing.T) {
	m := sized{"m", 1, 2, 3}
	for _, other := range []sized{{"m", 2, 2, 3}, {"m", 1, 1, 3}, {"m", 1, 2, 4}, {"m", 3, 2, 1}, {"m", 8, 16, 8}} {
		wantUnlinked(t, api.ErrMap, 1, ofMaps(m), ofMaps(other))
		wantUnlinked(t, api.ErrMap, 1, ofMaps(other), ofMaps(m))
		wantUnlinked(t, api.ErrMap, 2, ofMaps(m), ofMaps(m), ofMaps(other), ofMaps(m))
		wantUnlinked(t, api.ErrMap, 3, ofMaps(m), object(nil, nil), ofMaps(sized{"mm", 1, 1, 1}), ofMaps(sized{"a", 1, 1, 1}, other))
	}
	a, z := sized{"a", 1, 1, 1}, sized{"z", 1, 1, 1}
	wantUnlinked(t, api.ErrMap, 1, ofMaps(a, z), ofMaps(sized{"z", 1, 1, 2}), ofMaps(sized{"a", 1, 1, 2}))
	wantUnlinked(t, api.ErrMap, 7, ofMaps(m), ofMaps(m), ofMaps(a), ofMaps(z), ofMaps(a, m), ofMaps(m, z), ofMaps(m), ofMaps(sized{"z", 2, 1, 1}))
}

func TestLinkMissing(t *testing.T) {
	wantUnlinked(t, api.ErrNone, 0, caller("f", "g"))
	wantUnlinked(t, api.ErrNone, 1, empty("a"), caller("f", "g"), empty("h"))
	wantUnlinked(t, api.ErrNone, 1, caller("f", "g"), caller("g", "h"), caller("i", "j"))
	wantUnlinked(t, api.ErrNone, 0, caller("z", "y"), caller("a", "b"))
	wantUnlinked(t, api.ErrNone, 7, slices.Concat(letters(7, empty), []string{caller("z", "h")})...)
	wantUnlinked(t, api.ErrNone, 0, object(nil, []fun{{"a", exit}, {"b", call + call + exit}}, ref{1, 0, "a"}, ref{1, 1, "c"}))
	wantUnlinked(t, api.ErrNone, 0, caller("f", "ff"), caller("fff", "f"))
	wantImage(t, image(nil, []fun{{"f", callOf(1) + exit}, {"g", callOf(0) + exit}}), caller("f", "g"), caller("g", "f"))
	wantImage(t, image(nil, []fun{{"a", exit}, {"f", callOf(0) + exit}}), caller("f", "a"), empty("a"))
}

// TestLinkWhichError: for any errors that there are together, wherever they
// stand, the one that the promise names first.
func TestLinkWhichError(t *testing.T) {
	bad := []string{"x"}
	twice := []string{empty("f"), empty("f")}
	other := []string{ofMaps(sized{"m", 1, 1, 1}), ofMaps(sized{"m", 1, 1, 2})}
	missing := []string{caller("g", "h")}
	much := []string{object(nil, []fun{{"big", strings.Repeat(exit, 200)}}), empty("one")}
	for set := range 1 << 5 {
		var list []string
		e, at := api.ErrArgs, 0
		for n, c := range []struct {
			e api.Errno
			l []string
		}{{api.ErrLimit, much}, {api.ErrNone, missing}, {api.ErrMap, other}, {api.ErrTwice, twice}, {api.ErrBytes, bad}} {
			if set&(1<<n) != 0 {
				list = append(list, c.l...)
				e, at = c.e, len(list)-1
			}
		}
		if e == api.ErrLimit {
			at = 0
		}
		wantUnlinked(t, e, at, list...)
		wantUnlinked(t, api.ErrArgs, 0, slices.Concat(list, slices.Repeat(bad, 9))...)
	}
	wantUnlinked(t, api.ErrBytes, 0, "x", "y")
	wantUnlinked(t, api.ErrBytes, 2, empty("f"), empty("f"), "", "")
	wantUnlinked(t, api.ErrTwice, 4, other[0], other[1], missing[0], empty("f"), empty("f"))
	wantUnlinked(t, api.ErrMap, 2, missing[0], other[0], other[1])
	wantUnlinked(t, api.ErrNone, 2, much[0], much[1], missing[0])
	wantUnlinked(t, api.ErrArgs, 0, slices.Repeat([]string{empty("f")}, 9)...)
}

// wantBadAtEach: the bytes are no object, at each place of a list of right ones.
func wantBadAtEach(t *testing.T, bytes string) {
	t.Helper()
	right := letters(7, empty)
	for n := range 8 {
		wantUnlinked(t, api.ErrBytes, n, slices.Insert(slices.Clone(right), n, bytes)...)
	}
	wantUnlinked(t, api.ErrBytes, 0, bytes)
	wantUnlinked(t, api.ErrBytes, 0, bytes, bytes)
	wantUnlinked(t, api.ErrBytes, 1, right[0], bytes, "", bytes)
}

func TestLinkNoObjects(t *testing.T) {
	for _, s := range []string{"", "\x00", "SPOL", "SPOL\x01", "SPOL\x02\x00\x00", "SPOL\x02\x00\x00\x00\x00", "SPOL\x03\x00\x00\x00\x00", "func f\nexit\n", strings.Repeat("\xff", 5000), strings.Repeat("\x00", 5000)} {
		wantBadAtEach(t, s)
	}
}

func TestLinkOfImages(t *testing.T) {
	f := object([]sized{{"m", 1, 2, 3}}, []fun{{"x", call + inMap + exit}}, ref{0, 0, "x"}, ref{0, 1, "m"})
	i, _, _ := spool.Link(f)
	wantImage(t, i, f)
	wantBadAtEach(t, i)
	wantBadAtEach(t, i+"\x00\x00")
	wantBadAtEach(t, strings.Replace(i, "\x02", "\x01", 1))
	wantBadAtEach(t, strings.Replace(f, "\x01", "\x02", 1))
	wantBad(t, i)
}

func TestLinkCutShortAndMore(t *testing.T) {
	o := ample()
	for n := range len(o) {
		wantUnlinked(t, api.ErrBytes, 1, object(nil, nil), o[:n])
		wantUnlinked(t, api.ErrBytes, 0, o[n+1:], object(nil, nil))
	}
	for _, more := range []string{"\x00", "\x01", "\xff", " ", o, exit} {
		wantBadAtEach(t, o+more)
		wantBadAtEach(t, more+o)
	}
}

// TestLinkOneByteChanged: what is right is what Disassemble tells.
func TestLinkOneByteChanged(t *testing.T) {
	t.Parallel()
	o, rest := ample(), empty("nowhere")
	for n := range len(o) {
		for b := range 256 {
			changed := o[:n] + string([]byte{byte(b)}) + o[n+1:]
			i, e, at := spool.Link(rest, changed)
			switch _, bad := spool.Disassemble(changed); {
			case bad != api.OK:
				if i != "" || e != api.ErrBytes || at != 1 {
					t.Fatalf("P5: byte %d as %d: %x, %d, %d", n, b, i, e, at)
				}
			case e == api.OK:
				if !strings.HasPrefix(i, "SPOL\x02") || at != 0 {
					t.Fatalf("P5: byte %d as %d: %x, %d, %d", n, b, i, e, at)
				}
			case i != "" || e != api.ErrNone || at != 1:
				t.Fatalf("P5: byte %d as %d: %x, %d, %d", n, b, i, e, at)
			}
		}
	}
}
