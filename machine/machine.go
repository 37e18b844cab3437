// Package machine runs images.
package machine

import (
	"slices"
	"strings"
	"sync"

	"spool/api"
	"spool/object"
	"spool/ops"
	"spool/run"
)

// Machine is an image that runs, with what its runs leave in its maps.
type Machine struct {
	guard sync.Mutex
	funcs []function
	maps  []*run.Map
}

type function struct {
	name string
	code []ops.Instr // by slots: nothing stands at an instruction's second slot
}

// Load makes a machine of an image.
func Load(image string) (*Machine, api.Errno) {
	p, ok := object.DecodeImage(ops.Table(), image)
	if !ok {
		return nil, api.ErrBytes
	}
	m := &Machine{}
	for _, f := range p.Funcs {
		m.funcs = append(m.funcs, function{kept(f.Name), bySlots(f)})
	}
	for _, d := range p.Maps {
		m.maps = append(m.maps, run.NewMap(kept(d.Name), int(d.Key), int(d.Value), int(d.Entries)))
	}
	return m, api.OK
}

// kept is a name apart from the image, which is not to be kept.
func kept(name string) string { return strings.Clone(name) }

func bySlots(f object.Func) []ops.Instr {
	out := make([]ops.Instr, f.Slots())
	slot := 0
	for _, i := range f.Code {
		out[slot] = i
		slot += i.Op.Slots
	}
	return out
}

// Functions tells the functions' names.
func (m *Machine) Functions() []string {
	m.guard.Lock()
	defer m.guard.Unlock()
	var out []string
	for _, f := range m.funcs {
		out = append(out, f.name)
	}
	return out
}

// Entries tells what is in a map.
func (m *Machine) Entries(name string) ([]api.Entry, api.Errno) {
	m.guard.Lock()
	defer m.guard.Unlock()
	for _, d := range m.maps {
		if d.Name == name {
			return d.Entries(), api.OK
		}
	}
	return nil, api.ErrNone
}

// Run runs a function.
func (m *Machine) Run(name, input string, fuel int) (result api.Result) {
	m.guard.Lock()
	defer m.guard.Unlock()
	first := slices.IndexFunc(m.funcs, func(f function) bool { return f.name == name })
	if first < 0 {
		return api.Result{}
	}
	r := run.Start(m.maps, first, input, fuel)
	defer func() {
		switch caught := recover().(type) {
		case nil:
		case api.Trap:
			result = m.trapped(r, caught)
		default:
			panic(caught)
		}
	}()
	m.follow(r)
	return r.Result()
}

// follow does one instruction behind the other until the run has ended, or a
// trap breaks it off.
func (m *Machine) follow(r *run.Run) {
	for !r.Ended() {
		function, slot := r.Place()
		i := m.funcs[function].code[slot]
		r.Begin(i.Op.Slots)
		i.Op.Do(r, i)
		r.Next()
	}
}

func (m *Machine) trapped(r *run.Run, trap api.Trap) api.Result {
	result := r.Result()
	function, slot := r.Place()
	result.Trap, result.Func, result.Slot = trap, m.funcs[function].name, slot
	return result
}
