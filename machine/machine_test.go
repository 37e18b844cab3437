package machine

import (
	"testing"
	"time"

	"spool/api"
)

// One function that ends, and one that traps; a map.
const image = "SPOL\x02\x01\x01m\x01\x01\x01\x02\x01f\x01\x00\x01t\x02\x00" +
	"\xc2\x00\x00\x00\x00\x00\x00\x00" +
	"\x0d\x01\x00\x00\x00\x00\x00\x00\xc2\x00\x00\x00\x00\x00\x00\x00"

func calls(m *Machine) map[string]func() {
	return map[string]func(){
		"Run":            func() { m.Run("f", "", 9) },
		"Run to a trap":  func() { m.Run("t", "", 9) },
		"Run of nothing": func() { m.Run("none", "", 9) },
		"Entries":        func() { m.Entries("m") },
		"Functions":      func() { m.Functions() },
	}
}

// Each call waits for the guard, and gives it back.
func TestGuard(t *testing.T) {
	m, e := Load(image)
	if e != api.OK {
		t.Fatal(e)
	}
	for name, call := range calls(m) {
		m.guard.Lock()
		over := make(chan int)
		go func() {
			call()
			close(over)
		}()
		select {
		case <-over:
			t.Errorf("%s did not wait", name)
		case <-time.After(20 * time.Millisecond):
		}
		m.guard.Unlock()
		<-over
		if !m.guard.TryLock() {
			t.Fatalf("%s keeps the guard", name)
		}
		m.guard.Unlock()
	}
}

// What is no trap is not taken for one, and the guard is given back.
func TestNoTrap(t *testing.T) {
	m, e := Load(image)
	if e != api.OK {
		t.Fatal(e)
	}
	m.funcs[0].code = nil
	defer func() {
		if recover() == nil {
			t.Error("a fault of the machine's own was hidden")
		}
		if !m.guard.TryLock() {
			t.Error("the guard was kept")
		}
	}()
	m.Run("f", "", 9)
}
