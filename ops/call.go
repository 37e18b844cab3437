package ops

import "spool/run"

const firstHelper = 1

// helper is what `help` calls.
type helper struct {
	word string
	do   func(r *run.Run)
}

func helpers() [4]helper {
	return [4]helper{
		{"get", (*run.Run).Get},
		{"put", (*run.Run).Put},
		{"del", (*run.Run).Del},
		{"log", (*run.Run).Log},
	}
}

func readCall(r *Reading) bool {
	if r.word == "call" {
		var ok bool
		r.instr.S = sourceName
		r.instr.Name, ok = r.line.Name()
		return ok
	}
	asked := r.line.Word()
	for n, h := range helpers() {
		if asked == h.word {
			r.instr.Number = int32(firstHelper + n)
			return true
		}
	}
	return false
}

func writeCall(i Instr) string {
	if i.S == sourceName {
		return "call " + i.Name
	}
	return "help " + helpers()[i.Number-firstHelper].word
}

func needCall(i Instr) bool {
	if !othersEmpty(i, fieldS|fieldNumber) {
		return false
	}
	if i.S == sourceName {
		return true
	}
	return i.S == sourceNumber && i.Number >= firstHelper && i.Number < firstHelper+int32(len(helpers()))
}

func doCall(r *run.Run, i Instr) {
	if i.S == sourceName {
		r.Call(int(i.Number))
		return
	}
	helpers()[i.Number-firstHelper].do(r)
}
