package ops

var helpers = [4]string{"get", "put", "del", "log"}

const firstHelper = 1

func readCall(r *Reading) bool {
	if r.word == "call" {
		var ok bool
		r.instr.S = sourceName
		r.instr.Name, ok = r.line.Name()
		return ok
	}
	asked := r.line.Word()
	for n, helper := range helpers {
		if asked == helper {
			r.instr.Number = int32(firstHelper + n)
			return true
		}
	}
	return false
}

func writeCall(i Instr) string {
	if i.S == sourceName {
		return "call " + i.Name
	}
	return "help " + helpers[i.Number-firstHelper]
}

func needCall(i Instr) bool {
	if !othersEmpty(i, fieldS|fieldNumber) {
		return false
	}
	if i.S == sourceName {
		return true
	}
	return i.S == sourceNumber && i.Number >= firstHelper && i.Number < firstHelper+int32(len(helpers))
}
