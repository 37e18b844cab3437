package ops

import "spool/run"

// other tells the second value that an instruction works with.
type other func(r *run.Run, i Instr) run.Value

func register(r *run.Run, i Instr) run.Value { return r.Register(i.S) }

func written(_ *run.Run, i Instr) run.Value { return run.Number(uint64(i.Number)) }

// become gives D what comes of it and the other value.
func become(reckon func(d, s run.Value) run.Value, s other) doing {
	return func(r *run.Run, i Instr) {
		r.Set(i.D, reckon(r.Register(i.D), s(r, i)))
	}
}

func goOn(r *run.Run, i Instr) {
	_, slot := r.Place()
	r.Jump(i.Target(slot))
}

func goOnIf(so func(d, s run.Value) bool, s other) doing {
	return func(r *run.Run, i Instr) {
		if so(r.Register(i.D), s(r, i)) {
			goOn(r, i)
		}
	}
}

func load(size int) doing {
	return func(r *run.Run, i Instr) {
		r.Set(i.D, r.Register(i.S).Load(i.Jump, size))
	}
}

func store(size int, s other) doing {
	return func(r *run.Run, i Instr) {
		r.Register(i.D).Store(i.Jump, size, s(r, i))
	}
}

func doWide(r *run.Run, i Instr) {
	if i.S == sourceName {
		r.Set(i.D, r.Map(int(i.Number)))
		return
	}
	r.Set(i.D, run.Number(i.wide()))
}

func doExit(r *run.Run, _ Instr) { r.Exit() }
