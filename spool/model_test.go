package spool_test

import (
	"maps"
	"math/big"
	"slices"
	"strings"

	"spool/api"
)

// readImage: what is in an image; false, if it is no right one. Bytes that are
// not there are found out by the language itself.
func readImage(s string) (list []sized, funcs []fun, ok bool) {
	defer func() { ok = recover() == nil && ok }()
	at := 0
	take := func(n int) string { at += n; return s[at-n : at] }
	one := func() int { return int(take(1)[0]) }
	ok = take(5) == "SPOL\x02"
	last := ""
	name := func() string {
		n := take(one())
		ok = ok && isName(n) && last < n
		last = n
		return n
	}
	for range one() {
		m := sized{name(), one(), one(), one()}
		ok = ok && m.key >= 1 && m.key <= 8 && m.value >= 1 && m.value <= 16 && m.entries >= 1 && m.entries <= 8
		list = append(list, m)
	}
	last = ""
	var slots []int
	all := 0
	for n := range one() {
		funcs = append(funcs, fun{name: name()})
		slots = append(slots, one()+one()<<8)
		all += slots[n]
	}
	ok = ok && len(list) <= 8 && len(funcs) <= 16 && all <= 200
	for n := range funcs {
		funcs[n].slots = take(slots[n] * 8)
	}
	for _, f := range funcs {
		ok = ok && isCode(f.slots, len(list), len(funcs))
	}
	return list, funcs, ok && at == len(s)
}

func isName(s string) bool {
	for n, b := range []byte(s) {
		small := b >= 'a' && b <= 'z'
		if !small && (n == 0 || b != '_' && (b < '0' || b > '9')) {
			return false
		}
	}
	return len(s) >= 1 && len(s) <= 16
}

// parts: of a slot.
type parts struct{ op, d, s, jump, number int }

func slotAt(code string, slot int) parts {
	b := code[slot*8:]
	return parts{int(b[0]), int(b[1] & 15), int(b[1] >> 4), int(int16(uint16(b[2]) | uint16(b[3])<<8)), int(int32(uint32(b[4]) | uint32(b[5])<<8 | uint32(b[6])<<16 | uint32(b[7])<<24))}
}

func isCode(code string, howManyMaps, howManyFuncs int) bool {
	starts := map[int]parts{}
	last := 0
	for at := 0; at < len(code)/8; at++ {
		p := slotAt(code, at)
		if !p.fit() {
			return false
		}
		starts[at] = p
		last = p.op
		switch {
		case p.op == 193 && p.s == 1 && (p.number < 0 || p.number >= howManyFuncs):
			return false
		case p.op == 192 && p.s == 1 && (p.number < 0 || p.number >= howManyMaps):
			return false
		case p.op == 192:
			at++
			second := slotAt(code, at)
			if second != (parts{number: second.number}) || p.s == 1 && second.number != 0 {
				return false
			}
		}
	}
	for at, p := range starts {
		if _, there := starts[at+1+p.jump]; p.op >= 64 && p.op < 128 && !there {
			return false
		}
	}
	return last == 194 || last == 64
}

// fit: the table's column 'needs'.
func (p parts) fit() bool {
	in := func(low, high int) bool { return p.op >= low && p.op <= high }
	free := p
	result, any10, source := p.d < 10, p.d <= 10, p.s <= 10
	fine := true
	switch {
	case in(1, 12), in(17, 28):
		fine, free.d, free.s = result && source, 0, 0
	case in(13, 13), in(29, 29):
		fine, free.d = result, 0
	case in(33, 44), in(49, 60):
		fine, free.d, free.number = result, 0, 0
	case in(64, 64):
		free.jump = 0
	case in(65, 75), in(132, 135):
		fine, free.d, free.s, free.jump = any10 && source, 0, 0, 0
	case in(97, 107), in(136, 139):
		fine, free.d, free.jump, free.number = any10, 0, 0, 0
	case in(128, 131):
		fine, free.d, free.s, free.jump = result && source, 0, 0, 0
	case in(192, 192):
		fine, free.d, free.s, free.number = result && p.s <= 1, 0, 0, 0
	case in(193, 193):
		fine, free.s, free.number = p.s == 1 || p.s == 0 && p.number >= 1 && p.number <= 4, 0, 0
	case in(194, 194):
	default:
		return false
	}
	return fine && free == parts{op: p.op}
}

// model: a machine as the document tells of it, as plainly as can be. It runs
// an image's bytes.
type model struct {
	maps  []sized
	funcs []fun
	in    []map[string]*place
	done  map[int]int // how often an op was done to its end
}

type place struct {
	bytes []byte
	dead  bool
}

type val struct {
	sort string // "number", "map", "pointer"
	n    uint64
	at   *place
}

func num(n uint64) val { return val{"number", n, nil} }

func modelOf(image string) (*model, bool) {
	m := &model{done: map[int]int{}}
	var ok bool
	m.maps, m.funcs, ok = readImage(image)
	for range m.maps {
		m.in = append(m.in, map[string]*place{})
	}
	return m, ok
}

func (m *model) entries(n int) []api.Entry {
	var out []api.Entry
	for _, k := range slices.Sorted(maps.Keys(m.in[n])) {
		out = append(out, api.Entry{Key: k, Value: string(m.in[n][k].bytes)})
	}
	return out
}

// walk: a run of the model.
type walk struct {
	*model
	left   int
	result api.Result
}

func (m *model) run(function, input string, fuel int) api.Result {
	f := slices.IndexFunc(m.funcs, func(f fun) bool { return f.name == function })
	if f < 0 {
		return api.Result{}
	}
	if len(input) > 32 {
		input = input[:32]
	}
	w := &walk{model: m, left: min(5000, max(0, fuel))}
	given := &place{bytes: []byte(input)}
	r0, trap := w.call(f, 1, [5]val{{"pointer", 0, given}, num(uint64(len(input))), num(0), num(0), num(0)})
	w.result.Trap = trap
	if trap == api.None {
		w.result.R0 = r0.n
	}
	w.result.Input = string(given.bytes)
	w.result.Used = min(5000, max(0, fuel)) - w.left
	return w.result
}

// call: a function from its first instruction to its end.
func (w *walk) call(f, depth int, given [5]val) (val, api.Trap) {
	stack := &place{bytes: make([]byte, 64)}
	defer func() { stack.dead = true }()
	c := &frame{walk: w, code: w.funcs[f].slots, depth: depth}
	for n := range c.r {
		c.r[n] = num(0)
	}
	copy(c.r[1:], given[:])
	c.r[10] = val{"pointer", 64, stack}
	for !c.over {
		trap := api.Fuel
		at := c.at
		if w.left > 0 {
			w.left--
			trap = c.step()
		}
		if trap != api.None {
			if w.result.Func == "" {
				w.result.Func, w.result.Slot = w.funcs[f].name, at
			}
			return val{}, trap
		}
		w.done[int(c.code[at*8])]++
	}
	return c.r[0], api.None
}

// frame: one call of the model.
type frame struct {
	*walk
	code  string
	depth int
	at    int
	r     [11]val
	over  bool
}

func (c *frame) step() api.Trap {
	p := slotAt(c.code, c.at)
	c.at++
	s := c.r[p.s%11]
	if p.op < 128 && p.op&32 != 0 || p.op >= 136 && p.op <= 139 {
		s = num(uint64(p.number))
	}
	switch {
	case p.op < 64:
		return c.reckon(p, s)
	case p.op < 128:
		return c.jump(p, s)
	case p.op < 132:
		return c.load(p, 1<<(p.op-128))
	case p.op < 140:
		return c.store(p, s, 1<<(p.op%4))
	case p.op == 192 && p.s == 1:
		c.r[p.d] = val{"map", uint64(p.number), nil}
		c.at++
	case p.op == 192:
		c.r[p.d] = num(uint64(uint32(p.number)) + uint64(uint32(slotAt(c.code, c.at).number))<<32)
		c.at++
	case p.op == 193 && p.s == 1:
		return c.enter(p.number)
	case p.op == 193:
		return c.help(p.number)
	case p.op == 194 && c.depth == 1 && c.r[0].sort != "number":
		return api.Tag
	default:
		c.over = true
	}
	return api.None
}

func (c *frame) reckon(p parts, s val) api.Trap {
	d, what, wide := c.r[p.d], p.op%16, p.op&16 == 0
	switch {
	case what == 1 && wide:
		c.r[p.d] = s
	case what == 2 && wide && d.sort == "pointer" && s.sort == "number":
		c.r[p.d].n += s.n
	case what == 3 && wide && d.sort == "pointer" && s.sort == "number":
		c.r[p.d].n -= s.n
	case what < 13 && s.sort != "number" || what > 1 && d.sort != "number":
		return api.Tag
	case wide:
		c.r[p.d] = num(big64(what, 64, d.n, s.n))
	default:
		c.r[p.d] = num(big64(what, 32, d.n, s.n))
	}
	return api.None
}

// big64 reckons in numbers that do not wrap, and wraps at last.
func big64(what int, bits uint, d, s uint64) uint64 {
	all := new(big.Int).Lsh(big.NewInt(1), bits)
	a := new(big.Int).SetUint64(d)
	b := new(big.Int).SetUint64(s)
	a.Mod(a, all)
	b.Mod(b, all)
	by := uint(s % uint64(bits))
	x := new(big.Int)
	switch what {
	case 1:
		x.Set(b)
	case 2:
		x.Add(a, b)
	case 3:
		x.Sub(a, b)
	case 4:
		x.Mul(a, b)
	case 5:
		if b.Sign() != 0 {
			x.Div(a, b)
		}
	case 6:
		x.Set(a)
		if b.Sign() != 0 {
			x.Mod(a, b)
		}
	case 7:
		x.And(a, b)
	case 8:
		x.Or(a, b)
	case 9:
		x.Xor(a, b)
	case 10:
		x.Lsh(a, by)
	case 11:
		x.Rsh(a, by)
	case 12:
		if a.Bit(int(bits)-1) == 1 {
			a.Sub(a, all)
		}
		x.Rsh(a, by)
	case 13:
		x.Neg(a)
	}
	return x.Mod(x, all).Uint64()
}

func (c *frame) jump(p parts, s val) api.Trap {
	d := c.r[p.d]
	what := p.op
	if what > 96 {
		what -= 32
	}
	if what > 66 && (d.sort != "number" || s.sort != "number") {
		return api.Tag
	}
	so := []bool{true, d == s, d != s, d.n > s.n, d.n >= s.n, d.n < s.n, d.n <= s.n, int64(d.n) > int64(s.n), int64(d.n) >= int64(s.n), int64(d.n) < int64(s.n), int64(d.n) <= int64(s.n), d.n&s.n > 0}
	if so[what-64] {
		c.at += p.jump
	}
	return api.None
}

// bytes: from a pointer and so many further on.
func bytesAt(v val, further, size int) ([]byte, api.Trap) {
	if v.sort != "pointer" {
		return nil, api.Tag
	}
	from := v.n + uint64(further)
	if v.at.dead || from >= uint64(len(v.at.bytes)) || uint64(len(v.at.bytes))-from < uint64(size) {
		return nil, api.Bounds
	}
	return v.at.bytes[from : from+uint64(size)], api.None
}

func (c *frame) load(p parts, size int) api.Trap {
	b, trap := bytesAt(c.r[p.s], p.jump, size)
	if trap != api.None {
		return trap
	}
	var n uint64
	for len(b) > 0 {
		n = n*256 + uint64(b[len(b)-1])
		b = b[:len(b)-1]
	}
	c.r[p.d] = num(n)
	return api.None
}

func (c *frame) store(p parts, s val, size int) api.Trap {
	b, trap := bytesAt(c.r[p.d], p.jump, size)
	switch {
	case s.sort != "number":
		return api.Tag
	case trap != api.None:
		return trap
	}
	for n := range b {
		b[n] = byte(s.n % 256)
		s.n /= 256
	}
	return api.None
}

func (c *frame) enter(f int) api.Trap {
	if c.depth == 8 {
		return api.Depth
	}
	r0, trap := c.call(f, c.depth+1, [5]val(c.r[1:6]))
	c.back(r0)
	return trap
}

func (c *frame) back(r0 val) {
	c.r[0] = r0
	for n := 1; n <= 5; n++ {
		c.r[n] = num(0)
	}
}

func (c *frame) help(number int) api.Trap {
	if number == 4 {
		return c.tell()
	}
	if c.r[1].sort != "map" {
		return api.Tag
	}
	m, in := c.maps[c.r[1].n], c.in[c.r[1].n]
	key, trap := bytesAt(c.r[2], 0, m.key)
	if trap != api.None {
		return trap
	}
	var value []byte
	if number == 2 {
		value, trap = bytesAt(c.r[3], 0, m.value)
		if trap != api.None {
			return trap
		}
	}
	r0 := num(0)
	v, there := in[string(key)]
	switch {
	case number == 1 && there:
		r0 = val{"pointer", 0, v}
	case number == 2 && there:
		copy(v.bytes, strings.Clone(string(value)))
	case number == 2 && len(in) < m.entries:
		in[string(key)] = &place{bytes: slices.Clone(value)}
	case number == 3 && there:
		v.dead = true
		delete(in, string(key))
	case number > 1:
		r0 = num(1)
	}
	c.back(r0)
	return api.None
}

func (c *frame) tell() api.Trap {
	switch {
	case c.r[1].sort != "number":
		return api.Tag
	case len(c.result.Log) == 20:
		return api.Log
	}
	c.result.Log = append(c.result.Log, c.r[1].n)
	c.back(num(0))
	return api.None
}
