package link

import (
	"spool/api"
	"spool/object"
	"spool/ops"
)

const none = -1 // in place of a number

// firstFault answers what keeps the parts from being one whole, and the number
// of the part that does.
func firstFault(parts []object.Program, whole object.Program) (api.Errno, int) {
	if n := firstTwice(parts); n != none {
		return api.ErrTwice, n
	}
	if n := firstOtherMap(parts); n != none {
		return api.ErrMap, n
	}
	if n := firstMissing(parts, whole); n != none {
		return api.ErrNone, n
	}
	if tooMuch(whole) {
		return api.ErrLimit, 0
	}
	return api.OK, 0
}

// firstTwice finds the first part with a function that a part ahead has too.
func firstTwice(parts []object.Program) int {
	seen := map[string]int{}
	for n, p := range parts {
		for _, f := range p.Funcs {
			if _, there := seen[f.Name]; there {
				return n
			}
			seen[f.Name] = n
		}
	}
	return none
}

// firstOtherMap finds the first part with a map that a part ahead has with
// other numbers.
func firstOtherMap(parts []object.Program) int {
	seen := map[string]object.Map{}
	for n, p := range parts {
		for _, m := range p.Maps {
			if ahead, there := seen[m.Name]; there && ahead != m {
				return n
			}
			seen[m.Name] = m
		}
	}
	return none
}

// firstMissing finds the first part that refers to a function of no part.
func firstMissing(parts []object.Program, whole object.Program) int {
	for n, p := range parts {
		for _, f := range p.Funcs {
			for _, i := range f.Code {
				if i.Refers() == ops.AFunc && funcNumber(whole, i.Name) == none {
					return n
				}
			}
		}
	}
	return none
}

func tooMuch(whole object.Program) bool {
	slots := 0
	for _, f := range whole.Funcs {
		slots += f.Slots()
	}
	return len(whole.Maps) > api.MaxMaps || len(whole.Funcs) > api.MaxFuncs || slots > api.MaxSlots
}
