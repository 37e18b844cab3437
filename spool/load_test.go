package spool_test

import (
	"slices"
	"strings"
	"testing"
	"unsafe"

	"spool/api"
	"spool/spool"
)

// one: an image of one function f and of no maps.
func one(slots string) string { return image(nil, []fun{{"f", slots}}) }

// inMaps: an image of a function f and of maps, as many as named.
func inMaps(slots string, names ...string) string {
	var l []sized
	for _, name := range names {
		l = append(l, sized{name, 1, 1, 1})
	}
	return image(l, []fun{{"f", slots}})
}

// ampleImage: an image with something of each sort.
func ampleImage(t *testing.T) string {
	i, e, _ := spool.Link(ample(), empty("nowhere"))
	if e != api.OK {
		t.Fatalf("P5: Link: %d", e)
	}
	return i
}

func wantLoaded(t *testing.T, image string, names ...string) *spool.Machine {
	t.Helper()
	m, e := spool.Load(image)
	if m == nil || e != api.OK {
		t.Fatalf("P6: Load(%x) = %v, %d, want a machine", image, m != nil, e)
	}
	if l := m.Functions(); !slices.Equal(l, names) {
		t.Errorf("P6: Load(%x): functions %q, want %q", image, l, names)
	}
	return m
}

func wantUnloaded(t *testing.T, image string) {
	t.Helper()
	if m, e := spool.Load(image); m != nil || e != api.ErrBytes {
		t.Errorf("P6: Load(%x) = %v, %d, want error %d", image, m != nil, e, api.ErrBytes)
	}
}

// wantLoadOrNot: as the model tells.
func wantLoadOrNot(t *testing.T, image string) bool {
	t.Helper()
	m, right := modelOf(image)
	if !right {
		wantUnloaded(t, image)
		return false
	}
	var names []string
	for _, f := range m.funcs {
		names = append(names, f.name)
	}
	loaded := wantLoaded(t, image, names...)
	for _, s := range m.maps {
		if l, e := loaded.Entries(s.name); len(l) != 0 || e != api.OK {
			t.Errorf("P6: map %q at first: %q, %d", s.name, l, e)
		}
	}
	return true
}

func TestLoad(t *testing.T) {
	wantLoaded(t, "SPOL\x02\x00\x00")
	wantLoaded(t, "SPOL\x02\x01\x01m\x01\x02\x03\x00")
	wantLoaded(t, "SPOL\x02\x00\x01\x01f\x01\x00"+exit, "f")
	wantLoaded(t, image(nil, []fun{{"a", exit}, {"a0", exit}, {"a_", exit}, {"aa", exit}, {"abcdefghijklmnop", exit}, {"b", exit}}), "a", "a0", "a_", "aa", "abcdefghijklmnop", "b")
	wantLoaded(t, ampleImage(t), "f", "g_1", "nowhere")
	m := wantLoaded(t, image([]sized{{"a", 8, 16, 8}, {"b", 1, 1, 1}}, nil))
	for _, name := range []string{"a", "b"} {
		if l, e := m.Entries(name); len(l) != 0 || e != api.OK {
			t.Errorf("P6: map %q at first: %q, %d", name, l, e)
		}
	}
}

// TestImagesLimits: as much as there may be of all, and one more.
func TestImagesLimits(t *testing.T) {
	var funcs []fun
	var list []sized
	var names []string
	for n := range 17 {
		name := string(rune('a' + n))
		funcs, list, names = append(funcs, fun{name, exit}), append(list, sized{name, 8, 16, 8}), append(names, name)
	}
	wantLoaded(t, image(list[:8], funcs[:16]), names[:16]...)
	wantUnloaded(t, image(list[:9], nil))
	wantUnloaded(t, image(nil, funcs))
	wantLoaded(t, one(strings.Repeat(exit, 200)), "f")
	wantUnloaded(t, one(strings.Repeat(exit, 201)))
	wantUnloaded(t, image(nil, []fun{{"f", strings.Repeat(exit, 100)}, {"g", strings.Repeat(exit, 101)}}))
	for n := range 200 {
		wantUnloaded(t, "SPOL\x02\x00\x01\x01f\x00\x01"+strings.Repeat(exit, n+1))
	}
	for _, m := range []sized{{"m", 0, 1, 1}, {"m", 9, 1, 1}, {"m", 1, 0, 1}, {"m", 1, 17, 1}, {"m", 1, 1, 0}, {"m", 1, 1, 9}, {"", 1, 1, 1}, {"M", 1, 1, 1}, {"abcdefghijklmnopq", 1, 1, 1}} {
		wantUnloaded(t, image([]sized{m}, nil))
	}
	for _, l := range [][]fun{{{"g", exit}, {"f", exit}}, {{"f", exit}, {"f", exit}}, {{"fa", exit}, {"f", exit}}, {{"F", exit}}, {{"", exit}}, {{"abcdefghijklmnopq", exit}}, {{"f", ""}}} {
		wantUnloaded(t, image(nil, l))
	}
	wantUnloaded(t, image([]sized{{"b", 1, 1, 1}, {"a", 1, 1, 1}}, nil))
	wantUnloaded(t, image([]sized{{"a", 1, 1, 1}, {"a", 1, 1, 1}}, nil))
}

// TestImagesNumbers: of a called function, of a map: one that there is.
func TestImagesNumbers(t *testing.T) {
	wantLoaded(t, one(callOf(0)+exit), "f")
	wantLoaded(t, image(nil, []fun{{"f", callOf(1) + exit}, {"g", callOf(0) + exit}}), "f", "g")
	wantLoaded(t, inMaps(mapOf(0)+exit, "m"), "f")
	wantLoaded(t, inMaps(mapOf(1)+mapOf(0)+exit, "m", "n"), "f")
	for _, n := range []int{1, 2, 255, 256, 65536, 1 << 24, 1<<31 - 1, -1, -256, -1 << 31} {
		wantUnloaded(t, one(callOf(n)+exit))
		wantUnloaded(t, inMaps(mapOf(n)+exit, "m"))
		wantUnloaded(t, inMaps(callOf(n)+exit, "m", "n", "o"))
	}
	wantUnloaded(t, one(mapOf(0)+exit))
	wantUnloaded(t, image([]sized{{"m", 1, 1, 1}}, []fun{{"f", mapOf(1) + exit}, {"g", exit}, {"h", exit}}))
	wantUnloaded(t, inMaps(slot(192, 2, 1, 0, 0)+slot(0, 0, 0, 0, 1)+exit, "m"))
	wantUnloaded(t, inMaps(slot(192, 2, 2, 0, 0)+blank+exit, "m"))
	wantUnloaded(t, one(slot(193, 0, 2, 0, 0)+exit))
	for n, right := range []bool{false, true, true, true, true, false} {
		if wantLoadOrNot(t, one(slot(193, 0, 0, 0, n)+exit)) != right {
			t.Errorf("helper %d", n)
		}
	}
}

// TestImagesAreNoObjects: nor the other way round.
func TestImagesAreNoObjects(t *testing.T) {
	for _, o := range []string{object(nil, nil), only(exit), ample(), caller("f", "f"), ofMaps(sized{"m", 1, 1, 1})} {
		wantUnloaded(t, o)
		wantUnloaded(t, "SPOL\x02"+o[5:])
		wantUnloaded(t, "SPOL\x01"+o[5:len(o)-2])
	}
	wantBad(t, ampleImage(t))
	wantUnloaded(t, image(nil, nil)+"\x00\x00")
	for _, b := range []string{"\x00", "\x01", "\x03", "\xff"} {
		wantUnloaded(t, "SPOL"+b+"\x00\x00")
	}
	wantUnloaded(t, "spol\x02\x00\x00")
	wantUnloaded(t, "")
	wantUnloaded(t, ampleText)
}

func TestImagesCutShortAndMore(t *testing.T) {
	cutAndMore([]string{ampleImage(t), one(exit), image(nil, nil), image([]sized{{"m", 1, 1, 1}}, nil)}, func(s string) { wantUnloaded(t, s) })
}

func TestImagesOneByteChanged(t *testing.T) {
	t.Parallel()
	i := ampleImage(t)
	right := 0
	for n := range len(i) {
		for b := range 256 {
			if wantLoadOrNot(t, i[:n]+string([]byte{byte(b)})+i[n+1:]) {
				right++
			}
		}
		wantLoadOrNot(t, i[:n]+i[n+1:])
		wantLoadOrNot(t, i[:n]+i[n:n+1]+i[n:])
		if t.Failed() {
			t.FailNow()
		}
	}
	if right <= len(i) || right > len(i)*128 {
		t.Errorf("P6: changed bytes that are right: %d", right-len(i))
	}
}

// TestEachSlotOfImages: each op with all its parts, right and wrong.
func TestEachSlotOfImages(t *testing.T) {
	t.Parallel()
	right := 0
	for op := range 256 {
		for _, both := range [][2]int{{0, 0}, {1, 0}, {9, 1}, {10, 0}, {0, 2}, {10, 10}, {9, 10}, {0, 11}, {11, 0}, {15, 15}} {
			for _, rest := range [][2]int{{0, 0}, {0, 1}, {-1, 0}, {-1, 1}, {1, 0}, {0, -1}} {
				code := slot(op, both[0], both[1], rest[0], rest[1])
				if op == 192 {
					code += blank
				}
				if wantLoadOrNot(t, inMaps(code+exit, "m")) {
					right++
				}
			}
		}
		if t.Failed() {
			t.FailNow()
		}
	}
	if right < 500 {
		t.Errorf("P6: only %d are right", right)
	}
}

// TestLoadAnyBytes: P1 of Load.
func TestLoadAnyBytes(t *testing.T) {
	t.Parallel()
	base := []string{ampleImage(t), one(exit), image(nil, nil), one(callOf(0) + exit), inMaps(mapOf(0)+exit, "m")}
	anyBytes(6, "SPOL\x02", base, func(s string) { wantLoadOrNot(t, s) })
}

// TestLoadKeepsNothing: P2: the image may change when Load is over.
func TestLoadKeepsNothing(t *testing.T) {
	bytes := []byte(image([]sized{{"m", 1, 1, 1}}, []fun{{"f", slot(33, 0, 0, 0, 7) + exit}, {"g", slot(129, 0, 0, 0, 0) + exit}}))
	m := wantLoaded(t, unsafe.String(&bytes[0], len(bytes)), "f", "g")
	before := m.Functions()
	clear(bytes)
	if l := m.Functions(); !slices.Equal(l, []string{"f", "g"}) || !slices.Equal(before, l) {
		t.Errorf("P2: the names are in the image's memory: %q", l)
	}
	wantResult(t, m.Run("f", "", 9), api.Result{R0: 7, Used: 2})
	wantResult(t, m.Run("g", "", 9), api.Result{Trap: api.Tag, Func: "g", Used: 1})
	if _, e := m.Entries("m"); e != api.OK {
		t.Errorf("P2: the map's name is in the image's memory: %d", e)
	}
}

// TestFunctionsAreNew: P2: no two lists share memory, spare room too.
func TestFunctionsAreNew(t *testing.T) {
	m := wantLoaded(t, image(nil, []fun{{"f", exit}, {"g", exit}, {"h", exit}}), "f", "g", "h")
	other := m.Functions()
	l := m.Functions()
	l = l[:cap(l)]
	for n := range l {
		l[n] = "x"
	}
	third := m.Functions()
	if !slices.Equal(other, third) || strings.Join(third, "") != "fgh" {
		t.Errorf("P2: %q and %q", other, third)
	}
	for _, name := range third[len(third):cap(third)] {
		if name != "" {
			t.Errorf("P2: spare room holds %q", name)
		}
	}
}
