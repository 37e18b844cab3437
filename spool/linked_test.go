package spool_test

import (
	"cmp"
	"math/rand"
	"slices"
	"strings"
	"testing"
	"unsafe"

	"spool/api"
	"spool/spool"
)

// piece: what is in an object.
type piece struct {
	maps  []sized
	funcs []fun
	refs  []ref
}

func (p piece) bytes() string { return object(p.maps, p.funcs, p.refs...) }

func (p piece) has(name string) bool {
	return slices.ContainsFunc(p.funcs, func(f fun) bool { return f.name == name })
}

func (p piece) isMap(r ref) bool { return p.funcs[r.function].slots[r.slot*8] == 192 }

// linkOf tells what Link must answer for right objects of these pieces, and
// few enough: word by word what the document says.
func linkOf(l []piece) (string, api.Errno, int) {
	for n, p := range l {
		for _, f := range p.funcs {
			if slices.ContainsFunc(l[:n], func(q piece) bool { return q.has(f.name) }) {
				return "", api.ErrTwice, n
			}
		}
	}
	for n, p := range l {
		for _, m := range p.maps {
			for _, q := range l[:n] {
				for _, o := range q.maps {
					if o.name == m.name && (o.key != m.key || o.value != m.value || o.entries != m.entries) {
						return "", api.ErrMap, n
					}
				}
			}
		}
	}
	for n, p := range l {
		for _, r := range p.refs {
			if !p.isMap(r) && !slices.ContainsFunc(l, func(q piece) bool { return q.has(r.name) }) {
				return "", api.ErrNone, n
			}
		}
	}
	return imageOf(l)
}

func imageOf(l []piece) (string, api.Errno, int) {
	var maps []sized
	var funcs []fun
	for _, p := range l {
		for _, m := range p.maps {
			if !slices.Contains(maps, m) {
				maps = append(maps, m)
			}
		}
		funcs = append(funcs, p.funcs...)
	}
	slices.SortFunc(maps, func(a, b sized) int { return cmp.Compare(a.name, b.name) })
	slices.SortFunc(funcs, func(a, b fun) int { return cmp.Compare(a.name, b.name) })
	slots := 0
	for _, f := range funcs {
		slots += len(f.slots) / 8
	}
	if len(maps) > 8 || len(funcs) > 16 || slots > 200 {
		return "", api.ErrLimit, 0
	}
	for _, p := range l {
		for _, r := range p.refs {
			number := slices.IndexFunc(funcs, func(f fun) bool { return f.name == r.name })
			if p.isMap(r) {
				number = slices.IndexFunc(maps, func(m sized) bool { return m.name == r.name })
			}
			in := slices.IndexFunc(funcs, func(f fun) bool { return f.name == p.funcs[r.function].name })
			at := r.slot*8 + 4
			funcs[in].slots = funcs[in].slots[:at] + string([]byte{byte(number), 0, 0, 0}) + funcs[in].slots[at+4:]
		}
	}
	return image(maps, funcs), api.OK, 0
}

// some: some of the names, rising.
func some(r *rand.Rand, most int, names []string) []string {
	var out []string
	for range r.Intn(most + 1) {
		out = append(out, names[r.Intn(len(names))])
	}
	slices.Sort(out)
	return slices.Compact(out)
}

// anyPiece: a right object's, with names of a few, so that they meet. Where
// tidy holds, errors are fewer.
func anyPiece(r *rand.Rand, tidy bool, own string, known []string) piece {
	var p piece
	for _, name := range some(r, 4, strings.Fields("a aa a_ b c d e f g")) {
		m := sized{name, len(name), int(name[0] - 'a' + 1), 3}
		if !tidy && r.Intn(8) == 0 {
			m.entries = 1 + r.Intn(8)
		}
		p.maps = append(p.maps, m)
	}
	for n, name := range some(r, 3, strings.Fields("a aa a_ b c d e f g m0 m1 m2")) {
		if tidy {
			name = own + name
		}
		p.funcs = append(p.funcs, fun{name: name})
		f := &p.funcs[n]
		for range r.Intn(12) {
			at := len(f.slots) / 8
			switch k := r.Intn(6); {
			case k == 0 && len(p.maps) > 0:
				f.slots += inMap
				p.refs = append(p.refs, ref{n, at, p.maps[r.Intn(len(p.maps))].name})
			case k == 1 && len(known) > 0:
				f.slots += call
				p.refs = append(p.refs, ref{n, at, known[r.Intn(len(known))]})
			case k == 2:
				f.slots += slot(64, 0, 0, -1, 0)
			case k == 3:
				f.slots += slot(192, 1, 0, 0, r.Intn(3)) + blank
			case k == 4:
				f.slots += slot(193, 0, 0, 0, 1+r.Intn(4))
			default:
				f.slots += strings.Repeat(neg, r.Intn(10))
			}
		}
		f.slots += exit
		known = append(known, name)
	}
	return p
}

// TestLinkOfAny: P5, P8: lists of right objects at random.
func TestLinkOfAny(t *testing.T) {
	r := rand.New(rand.NewSource(4))
	seen := map[api.Errno]int{}
	for k := range 6000 {
		var pieces []piece
		var list, known []string
		if k%4 == 0 {
			known = strings.Fields("a aa a_ b c d e f g")
		}
		for n := range 1 + r.Intn(8) {
			p := anyPiece(r, k%3 > 0, string(rune('p'+n)), known)
			for _, f := range p.funcs {
				known = append(known, f.name)
			}
			pieces, list = append(pieces, p), append(list, p.bytes())
		}
		want, e, at := linkOf(pieces)
		seen[e]++
		if e == api.OK {
			wantImage(t, want, list...)
			r.Shuffle(len(list), func(a, b int) { list[a], list[b] = list[b], list[a] })
			wantImage(t, want, list...)
		} else {
			wantUnlinked(t, e, at, list...)
		}
		if t.Failed() {
			t.FailNow()
		}
	}
	for _, e := range []api.Errno{api.OK, api.ErrTwice, api.ErrMap, api.ErrNone, api.ErrLimit} {
		if seen[e] < 100 {
			t.Errorf("only %d lists with error %d", seen[e], e)
		}
	}
}

// checkLink: P1 of Link at any list.
func checkLink(t *testing.T, l ...string) {
	t.Helper()
	i, e, at := spool.Link(l...)
	switch {
	case e == api.OK:
		if at != 0 || !strings.HasPrefix(i, "SPOL\x02") {
			t.Errorf("P1: Link(%x) = %x, %d, %d", l, i, e, at)
		}
	case i != "" || !slices.Contains([]api.Errno{api.ErrArgs, api.ErrBytes, api.ErrTwice, api.ErrMap, api.ErrNone, api.ErrLimit}, e):
		t.Errorf("P1: Link(%x) = %x, %d, %d", l, i, e, at)
	case at < 0 || at > 0 && at >= len(l):
		t.Errorf("P1: Link(%x): error %d of object %d", l, e, at)
	}
	if e == api.ErrBytes {
		wantBad(t, l[at])
	}
}

func TestLinkAnyBytes(t *testing.T) {
	t.Parallel()
	r := rand.New(rand.NewSource(5))
	base := []string{ample(), empty("nowhere"), object(nil, nil), caller("k", "f"), ofMaps(sized{"a", 1, 16, 8}), "", "SPOL\x01"}
	for range 4000 {
		var l []string
		for range r.Intn(11) {
			b := []byte(base[r.Intn(len(base))])
			for range r.Intn(3) * r.Intn(2) * min(1, len(b)) {
				b[r.Intn(len(b))] = byte(r.Intn(256) & r.Intn(256))
			}
			if r.Intn(9) == 0 {
				b = b[:r.Intn(len(b)+1)]
			}
			l = append(l, string(b))
		}
		checkLink(t, l...)
	}
	for _, s := range []string{strings.Repeat("\x00", 1<<20), strings.Repeat("\xff", 1<<20), "SPOL\x01" + strings.Repeat("\xff", 1<<20), "SPOL\x01\x00\xff" + strings.Repeat("\x01f\xff\xff", 1<<18)} {
		wantUnlinked(t, api.ErrBytes, 1, empty("f"), s, s, s)
	}
	wantUnlinked(t, api.ErrArgs, 0, make([]string, 100000)...)
}

func TestLinkSameAnswers(t *testing.T) {
	lists := [][]string{
		{ample(), empty("nowhere")},
		{empty("nowhere"), ample()},
		{ample()},
		{empty("f"), empty("f")},
		{caller("f", "g"), caller("g", "f"), object(nil, nil)},
		{ofMaps(sized{"m", 1, 1, 1}), ofMaps(sized{"m", 1, 1, 2})},
		{"x"},
		nil,
	}
	type answer struct {
		image string
		e     api.Errno
		at    int
	}
	wantSame(t, len(lists), func(n int) (a answer) {
		a.image, a.e, a.at = spool.Link(lists[n]...)
		return a
	})
}

// TestLinkKeepsNothing: P2: the list stays as it is, spare room too, and may
// change when the call is over.
func TestLinkKeepsNothing(t *testing.T) {
	right := []string{caller("z", "a"), ofMaps(sized{"m", 1, 2, 3}), caller("a", "z"), "spare", "room"}
	list := slices.Clone(right)
	want := image([]sized{{"m", 1, 2, 3}}, []fun{{"a", callOf(1) + exit}, {"z", callOf(0) + exit}})
	wantImage(t, want, list[:3]...)
	if !slices.Equal(list, right) {
		t.Errorf("P2: the list was changed: %x", list)
	}
	bytes := []byte(caller("z", "z"))
	i, _, _ := spool.Link(unsafe.String(&bytes[0], len(bytes)))
	clear(bytes)
	if i != image(nil, []fun{{"z", callOf(0) + exit}}) {
		t.Errorf("P2: the image is in an object's memory: %x", i)
	}
	wantImage(t, want, right[:3]...)
}

func FuzzLink(f *testing.F) {
	f.Add(ample(), empty("nowhere"))
	f.Add(caller("f", "g"), caller("g", "f"))
	f.Fuzz(func(t *testing.T, a, b string) {
		checkLink(t, a, b)
		one, e, _ := spool.Link(a, b)
		other, also, _ := spool.Link(b, a)
		if one != other || e != also {
			t.Errorf("P8: Link(%x, %x): %x, %d, and the other way round %x, %d", a, b, one, e, other, also)
		}
	})
}
