package object

import (
	"spool/api"
	"spool/ops"
	"spool/scan"
)

// reader goes through bytes. Once they are bad it reads on, as far as there
// are bytes, and what it reads then counts for nothing.
type reader struct {
	rest string
	bad  bool
}

// DecodeObject reads an object; false, if it is no right one.
func DecodeObject(table []*ops.Op, object string) (Program, bool) {
	return decode(table, objectKind, object, (*reader).references)
}

// DecodeImage reads an image; false, if it is no right one.
func DecodeImage(table []*ops.Op, image string) (Program, bool) {
	return decode(table, imageKind, image, (*reader).numbers)
}

// decode reads what both have; the rest of it reads or looks at what only one
// of them has.
func decode(table []*ops.Op, kind int, bytes string, rest func(r *reader, p Program)) (Program, bool) {
	r := &reader{rest: bytes}
	r.want(r.take(len(magic)) == magic)
	r.want(r.one() == kind)
	p := Program{Maps: r.maps()}
	p.Funcs = r.funcs(table)
	rest(r, p)
	r.want(r.rest == "")
	if r.bad {
		return Program{}, false
	}
	return p, true
}

func (r *reader) want(so bool) {
	r.bad = r.bad || !so
}

func (r *reader) take(n int) string {
	if n > len(r.rest) {
		r.bad = true
		n = len(r.rest)
	}
	out := r.rest[:n]
	r.rest = r.rest[n:]
	return out
}

func (r *reader) one() int {
	s := r.take(1)
	if s == "" {
		return 0
	}
	return int(s[0])
}

func (r *reader) two() int {
	low := r.one()
	return low | r.one()<<8
}

func (r *reader) name() string {
	name := r.take(r.one())
	r.want(scan.IsName(name))
	return name
}

// size reads a number of a map.
func (r *reader) size(most int) byte {
	n := r.one()
	r.want(n >= 1 && n <= most)
	return byte(n)
}

func (r *reader) maps() []Map {
	var out []Map
	last := ""
	count := r.one()
	r.want(count <= api.MaxMaps)
	for range count {
		m := Map{Name: r.name()}
		m.Key = r.size(api.MaxKey)
		m.Value = r.size(api.MaxValue)
		m.Entries = r.size(api.MaxEntries)
		r.want(last < m.Name)
		last = m.Name
		out = append(out, m)
	}
	return out
}

func (r *reader) funcs(table []*ops.Op) []Func {
	var out []Func
	var slots []int
	last, all := "", 0
	count := r.one()
	r.want(count <= api.MaxFuncs)
	for n := range count {
		out = append(out, Func{Name: r.name()})
		slots = append(slots, r.two())
		r.want(last < out[n].Name)
		last = out[n].Name
		all += slots[n]
	}
	r.want(all <= api.MaxSlots)
	if r.bad {
		return nil
	}
	for n := range out {
		out[n].Code = r.code(table, r.take(slots[n]*ops.SlotSize))
	}
	return out
}

func (r *reader) code(table []*ops.Op, slots string) []ops.Instr {
	var out []ops.Instr
	starts := make([]bool, len(slots)/ops.SlotSize)
	at := 0
	for at < len(starts) {
		i, ok := ops.FromSlots(table, slots[at*ops.SlotSize:])
		if !ok {
			r.bad = true
			return nil
		}
		out = append(out, i)
		starts[at] = true
		at += i.Op.Slots
	}
	r.want(len(out) > 0 && out[len(out)-1].Op.Ends)
	r.want(jumpsLead(out, starts))
	return out
}

// jumpsLead tells whether each jump leads to where an instruction starts.
func jumpsLead(code []ops.Instr, starts []bool) bool {
	slot := 0
	for _, i := range code {
		if i.Op.Jumps {
			to := i.Target(slot)
			if to < 0 || to >= len(starts) || !starts[to] {
				return false
			}
		}
		slot += i.Op.Slots
	}
	return true
}

// references reads one for each instruction that refers to something, in the
// instructions' order: there is no other right list.
func (r *reader) references(p Program) {
	left := r.two()
	for n, f := range p.Funcs {
		slot := 0
		for k := range f.Code {
			i := &f.Code[k]
			if i.Refers() != ops.Nothing {
				i.Name = r.reference(n, slot)
				r.want(i.Number == 0)
				r.want(i.Refers() != ops.AMap || hasMap(p.Maps, i.Name))
				left--
			}
			slot += i.Op.Slots
		}
	}
	r.want(left == 0)
}

func (r *reader) reference(function, slot int) string {
	r.want(r.one() == function)
	r.want(r.two() == slot)
	return r.name()
}

func hasMap(maps []Map, name string) bool {
	for _, m := range maps {
		if m.Name == name {
			return true
		}
	}
	return false
}

// numbers looks at those of the functions and maps to which instructions refer.
func (r *reader) numbers(p Program) {
	for _, f := range p.Funcs {
		for _, i := range f.Code {
			switch i.Refers() {
			case ops.AFunc:
				r.want(isNumberOf(p.Funcs, i.Number))
			case ops.AMap:
				r.want(isNumberOf(p.Maps, i.Number))
			}
		}
	}
}

func isNumberOf[T any](list []T, n int32) bool {
	return n >= 0 && int(n) < len(list)
}
