package ops

import (
	"testing"

	"spool/scan"
)

// One row for each op of the document's table, none twice, each with all that
// is told of it.
func TestTable(t *testing.T) {
	rows := map[byte]int{}
	for _, op := range Table() {
		rows[op.Code]++
		if len(op.Words) == 0 || op.Slots < 1 || op.Read == nil || op.Write == nil || op.Needs == nil || op.Do == nil {
			t.Errorf("op %d: %v", op.Code, op)
		}
	}
	want := map[byte]int{}
	for _, r := range [][2]int{{1, 13}, {17, 29}, {33, 44}, {49, 60}, {64, 75}, {97, 107}, {128, 139}, {192, 194}} {
		for code := r[0]; code <= r[1]; code++ {
			want[byte(code)] = 1
		}
	}
	for code := range 256 {
		if rows[byte(code)] != want[byte(code)] {
			t.Errorf("op %d has %d rows", code, rows[byte(code)])
		}
	}
}

// Each call of Table is new memory: no one's changes reach another.
func TestTableIsNew(t *testing.T) {
	a := Table()
	a[0].Words[0] = "none"
	a[0].Code = 0
	if b := Table(); b[0].Words[0] != "mov" || b[0].Code != 1 {
		t.Error("two tables share memory")
	}
}

func TestReadAndWrite(t *testing.T) {
	table := Table()
	for _, s := range []string{"mov r1, r2", "ash32 r9, -1", "neg r0", "jeq r10, r1, x", "jset r1, 5, y", "ja z", "ld8 r1, [r10-8]", "st1 [r10+1], r2", "st2 [r3], 4", "wide r1, 18446744073709551615", "wide r1, map m", "help del", "call f", "exit"} {
		line, _ := scan.New(s)
		word := line.Word()
		i, fits, ok := Read(table, word, line)
		if !fits || !ok || i.Op.Write(i) != s || !Begins(table, word) {
			t.Errorf("%q: %v, %v, %v", s, i, fits, ok)
			continue
		}
		i.Label = ""
		slots := string(i.AppendSlots(nil))
		back, ok := FromSlots(table, slots)
		back.Name = i.Name
		if !ok || back != i || len(slots) != i.Op.Slots*SlotSize {
			t.Errorf("%q: %x, and back %v, %v", s, slots, back, ok)
		}
		for n := range len(slots) {
			if _, ok := FromSlots(table, slots[:n]); ok {
				t.Errorf("%q: %d bytes are enough", s, n)
			}
		}
	}
}

func TestFits(t *testing.T) {
	table := Table()
	for _, s := range []string{"mov r10, r2", "mov r1, 2147483648", "ld1 r1, [r2+32768]", "wide r1, 18446744073709551616", "wide r10, map m"} {
		line, _ := scan.New(s)
		if _, fits, ok := Read(table, line.Word(), line); fits || !ok {
			t.Errorf("%q: %v, %v", s, fits, ok)
		}
	}
}

func TestJumps(t *testing.T) {
	table := Table()
	i := Instr{Op: byCode(table, jaCode)}
	for slot := range 5 {
		for target := range 5 {
			i.Jump = i.JumpTo(slot, target)
			if i.Target(slot) != target || int(i.Jump) != target-slot-1 {
				t.Errorf("from %d to %d: %d", slot, target, i.Jump)
			}
		}
	}
}
