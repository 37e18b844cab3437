package run

import "spool/api"

// What helpers answer.
const (
	done    = 0
	notDone = 1
)

// Get is the helper that finds a value.
func (r *Run) Get() {
	m := r.Register(1).mapped()
	r.answer(m.get(r.read(2, m.key)))
}

// Put is the helper that lays a value under a key.
func (r *Run) Put() {
	m := r.Register(1).mapped()
	key := r.read(2, m.key)
	r.answerWhether(m.put(key, r.read(3, m.value)))
}

// Del is the helper that takes a key away.
func (r *Run) Del() {
	m := r.Register(1).mapped()
	r.answerWhether(m.del(r.read(2, m.key)))
}

// Log is the helper that tells a number.
func (r *Run) Log() {
	n := r.Register(1).Number()
	if len(r.log) == api.MaxLog {
		panic(api.Log)
	}
	r.log = append(r.log, n)
	r.answer(Number(done))
}

// read copies the bytes to which a register leads: what is written then may be
// the very same bytes.
func (r *Run) read(register byte, size int) string {
	return string(r.Register(register).reach(0, size))
}

func (r *Run) answerWhether(ok bool) {
	if ok {
		r.answer(Number(done))
	} else {
		r.answer(Number(notDone))
	}
}
