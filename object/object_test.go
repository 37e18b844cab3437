package object

import (
	"testing"

	"spool/ops"
)

const exit = "\xc2\x00\x00\x00\x00\x00\x00\x00"

func TestThereAndBack(t *testing.T) {
	for _, o := range []string{
		"SPOL\x01\x00\x00\x00\x00",
		"SPOL\x01\x01\x01m\x01\x02\x03\x00\x00\x00",
		"SPOL\x01\x00\x01\x01f\x01\x00" + exit + "\x00\x00",
		"SPOL\x01\x00\x01\x01f\x02\x00\xc1\x10\x00\x00\x00\x00\x00\x00" + exit + "\x01\x00\x00\x00\x00\x01g",
	} {
		p, ok := DecodeObject(ops.Table(), o)
		if !ok || EncodeObject(p) != o {
			t.Errorf("%x: %v, %v, %x", o, p, ok, EncodeObject(p))
		}
		for n := range len(o) {
			if p, ok := DecodeObject(ops.Table(), o[:n]); ok || p.Maps != nil || p.Funcs != nil {
				t.Errorf("%d bytes of %x: %v, %v", n, o, p, ok)
			}
		}
	}
}

func TestSlots(t *testing.T) {
	p, ok := DecodeObject(ops.Table(), "SPOL\x01\x00\x01\x01f\x03\x00\xc0\x03\x00\x00\x02\x00\x00\x00\x00\x00\x00\x00\x01\x00\x00\x00"+exit+"\x00\x00")
	if !ok || len(p.Funcs) != 1 || len(p.Funcs[0].Code) != 2 || p.Funcs[0].Slots() != 3 {
		t.Errorf("%v, %v", p, ok)
	}
}

func TestImage(t *testing.T) {
	p, ok := DecodeObject(ops.Table(), "SPOL\x01\x00\x01\x01f\x02\x00\xc1\x10\x00\x00\x00\x00\x00\x00"+exit+"\x01\x00\x00\x00\x00\x01g")
	if !ok {
		t.Fatal(p)
	}
	p.Funcs[0].Code[0].Number = 3
	if i := EncodeImage(p); i != "SPOL\x02\x00\x01\x01f\x02\x00\xc1\x10\x00\x00\x03\x00\x00\x00"+exit {
		t.Errorf("%x", i)
	}
	for _, number := range []int32{-1, 0, 1} {
		p.Funcs[0].Code[0].Number = number
		i := EncodeImage(p)
		back, ok := DecodeImage(ops.Table(), i)
		if ok != (number == 0) || ok && EncodeImage(back) != i || !ok && (back.Maps != nil || back.Funcs != nil) {
			t.Errorf("%x: %v, %v", i, back, ok)
		}
		if _, ok := DecodeObject(ops.Table(), i); ok {
			t.Errorf("%x is an object", i)
		}
	}
}

func TestSort(t *testing.T) {
	p := Program{Maps: []Map{{Name: "b"}, {Name: "ab"}, {Name: "a"}}, Funcs: []Func{{Name: "aa"}, {Name: "a_"}, {Name: "a0"}}}
	p.Sort()
	if p.Maps[0].Name != "a" || p.Maps[1].Name != "ab" || p.Maps[2].Name != "b" {
		t.Errorf("%v", p.Maps)
	}
	if p.Funcs[0].Name != "a0" || p.Funcs[1].Name != "a_" || p.Funcs[2].Name != "aa" {
		t.Errorf("%v", p.Funcs)
	}
}
