package spool_test

import (
	"testing"

	"spool/api"
	"spool/spool"
)

// What the tests want is written out here from the document's tables, not
// taken from the packages under test.

type ref struct {
	function, slot int
	name           string
}

type fun struct {
	name  string
	slots string
}

type sized struct {
	name                string
	key, value, entries int
}

var exit = slot(194, 0, 0, 0, 0)

func slot(op, d, s, jump, number int) string {
	return string([]byte{byte(op), byte(d | s<<4), byte(jump), byte(jump >> 8), byte(number), byte(number >> 8), byte(number >> 16), byte(number >> 24)})
}

func two(n int) string { return string([]byte{byte(n), byte(n >> 8)}) }

func named(name string) string { return string([]byte{byte(len(name))}) + name }

func object(maps []sized, funcs []fun, refs ...ref) string {
	out := "SPOL\x01" + inBoth(maps, funcs) + two(len(refs))
	for _, r := range refs {
		out += string([]byte{byte(r.function)}) + two(r.slot) + named(r.name)
	}
	return out
}

func image(maps []sized, funcs []fun) string { return "SPOL\x02" + inBoth(maps, funcs) }

// inBoth: what objects and images have in the same form.
func inBoth(maps []sized, funcs []fun) string {
	out := string([]byte{byte(len(maps))})
	for _, m := range maps {
		out += named(m.name) + string([]byte{byte(m.key), byte(m.value), byte(m.entries)})
	}
	out += string([]byte{byte(len(funcs))})
	for _, f := range funcs {
		out += named(f.name) + two(len(f.slots)/8)
	}
	for _, f := range funcs {
		out += f.slots
	}
	return out
}

// only: an object of one function f and of no maps.
func only(slots string, refs ...ref) string {
	return object(nil, []fun{{"f", slots}}, refs...)
}

func wantObject(t *testing.T, text, want string) {
	t.Helper()
	if o, e, at := spool.Assemble(text); o != want || e != api.OK || at != 0 {
		t.Errorf("P3: Assemble(%.300q) = %x, %d, %d, want %x", text, o, e, at, want)
	}
}

func wantRight(t *testing.T, text string) string {
	t.Helper()
	o, e, at := spool.Assemble(text)
	if e != api.OK || at != 0 || o == "" {
		t.Errorf("P3: Assemble(%.300q) = %x, %d, %d, want an object", text, o, e, at)
	}
	return o
}

func wantFault(t *testing.T, text string, want api.Errno, line int) {
	t.Helper()
	if o, e, at := spool.Assemble(text); o != "" || e != want || at != line {
		t.Errorf("P3: Assemble(%.300q) = %x, %d, %d, want error %d at line %d", text, o, e, at, want, line)
	}
}

func wantText(t *testing.T, object, want string) {
	t.Helper()
	if s, e := spool.Disassemble(object); s != want || e != api.OK {
		t.Errorf("P4: Disassemble(%x) = %q, %d, want %q", object, s, e, want)
	}
}

func wantBad(t *testing.T, object string) {
	t.Helper()
	if s, e := spool.Disassemble(object); s != "" || e != api.ErrBytes {
		t.Errorf("P4: Disassemble(%x) = %q, %d, want error %d", object, s, e, api.ErrBytes)
	}
}

// wantBoth: the text is the one in which the object is told, and its source.
func wantBoth(t *testing.T, text, object string) {
	t.Helper()
	wantObject(t, text, object)
	wantText(t, object, text)
}

func wantImage(t *testing.T, want string, objects ...string) {
	t.Helper()
	if i, e, at := spool.Link(objects...); i != want || e != api.OK || at != 0 {
		t.Errorf("P5: Link(%x) = %x, %d, %d, want %x", objects, i, e, at, want)
	}
}

func wantUnlinked(t *testing.T, want api.Errno, number int, objects ...string) {
	t.Helper()
	if i, e, at := spool.Link(objects...); i != "" || e != want || at != number {
		t.Errorf("P5: Link(%x) = %x, %d, %d, want error %d of object %d", objects, i, e, at, want, number)
	}
}
