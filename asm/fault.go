package asm

import (
	"spool/api"
	"spool/ops"
)

// outline is what lines must know of others, also of those behind them.
type outline struct {
	maps  map[string]int // how often each name
	funcs []function
}

type function struct {
	slots  int
	ends   bool           // its last instruction may be the last
	labels map[string]int // the slot ahead of which each stands first
}

func outlineOf(lines []line) outline {
	all := outline{maps: map[string]int{}}
	for _, l := range lines {
		last := len(all.funcs) - 1
		switch l.kind {
		case mapLine:
			all.maps[l.name]++
		case funcLine:
			all.funcs = append(all.funcs, function{labels: map[string]int{}})
		case labelLine:
			f := all.funcs[last]
			if _, there := f.labels[l.name]; !there {
				f.labels[l.name] = f.slots
			}
		case codeLine:
			f := &all.funcs[last]
			f.slots += l.instr.Op.Slots
			f.ends = l.instr.Op.Ends
		}
	}
	return all
}

// walk goes through the lines and keeps what stood ahead.
type walk struct {
	all    outline
	maps   map[string]int
	funcs  map[string]int
	labels map[string]int // of the function in which it is
	now    int            // that function's number
	slots  int
}

// firstFault answers the first line's fault, and at that line the one that
// the document names first.
func firstFault(lines []line, all outline) (api.Errno, int) {
	w := walk{all: all, maps: map[string]int{}, funcs: map[string]int{}, now: -1}
	for n, l := range lines {
		if e := w.fault(l); e != api.OK {
			return e, n + 1
		}
	}
	return api.OK, 0
}

func (w *walk) fault(l line) api.Errno {
	switch l.kind {
	case mapLine:
		return w.mapFault(l)
	case funcLine:
		return w.funcFault(l)
	case labelLine:
		w.labels[l.name]++
		if w.labels[l.name] > 1 {
			return api.ErrTwice
		}
	case codeLine:
		return w.codeFault(l)
	}
	return api.OK
}

func (w *walk) mapFault(l line) api.Errno {
	w.maps[l.name]++
	switch {
	case !sizesFit(l):
		return api.ErrRange
	case w.maps[l.name] > 1:
		return api.ErrTwice
	case len(w.maps) > api.MaxMaps:
		return api.ErrLimit
	}
	return api.OK
}

func sizesFit(l line) bool {
	for n, most := range [3]int64{api.MaxKey, api.MaxValue, api.MaxEntries} {
		v, ok := l.sizes[n].Signed(64)
		if !ok || v < 1 || v > most {
			return false
		}
	}
	return true
}

func (w *walk) funcFault(l line) api.Errno {
	w.funcs[l.name]++
	w.labels = map[string]int{}
	w.now++
	switch {
	case w.funcs[l.name] > 1:
		return api.ErrTwice
	case len(w.funcs) > api.MaxFuncs:
		return api.ErrLimit
	case !w.all.funcs[w.now].ends:
		return api.ErrEnd
	}
	return api.OK
}

func (w *walk) codeFault(l line) api.Errno {
	w.slots += l.instr.Op.Slots
	switch {
	case !l.fits:
		return api.ErrRange
	case l.instr.Op.Jumps && !w.hasLabel(l.instr.Label):
		return api.ErrNone
	case l.instr.Refers() == ops.AMap && w.all.maps[l.instr.Name] == 0:
		return api.ErrNone
	case w.slots > api.MaxSlots:
		return api.ErrLimit
	}
	return api.OK
}

// hasLabel: a label behind the last instruction has no slot to lead to.
func (w *walk) hasLabel(name string) bool {
	f := w.all.funcs[w.now]
	slot, there := f.labels[name]
	return there && slot < f.slots
}
