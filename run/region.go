package run

import "spool/api"

// region is a list of bytes to which pointers lead.
type region struct{ bytes []byte }

// die takes all bytes away: what a pointer reaches must be at least one.
func (g *region) die() { g.bytes = nil }

// reach answers the bytes themselves, not a copy, from the pointer's offset and
// the jump on.
func (v Value) reach(jump int16, size int) []byte {
	v.want(aPointer)
	at := int64(v.bits + uint64(jump))
	if at < 0 || at > int64(len(v.region.bytes)-size) {
		panic(api.Bounds)
	}
	return v.region.bytes[at : at+int64(size)]
}

// Load is the number that the bytes are to which the pointer leads.
func (v Value) Load(jump int16, size int) Value {
	var n uint64
	for k, b := range v.reach(jump, size) {
		n |= uint64(b) << (8 * k)
	}
	return Number(n)
}

// Store makes the bytes to which the pointer leads a number's.
func (v Value) Store(jump int16, size int, what Value) {
	n := what.Number() // ahead of the bytes, as Tag is ahead of Bounds
	into := v.reach(jump, size)
	for k := range into {
		into[k] = byte(n >> (8 * k))
	}
}
