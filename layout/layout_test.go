package layout_test

import (
	"fmt"
	"testing"

	"stackmap/api"
	"stackmap/layout"
)

// small: two classes, and a method with a parameter, two handlers and two maps.
var small = []byte{'S', 'M',
	2, 0, 1, 3, 8, 7, 2, 1, 0, 9, 200,
	1, 7, 5, 1, 1, 0, 3, 7, 2, 3,
	4, 0, 255, 26, 22,
	2, 0, 2, 3, 1, 4, 5, 6, 7,
	2, 3, 1, 0, 0, 0, 2, 3, 7, 4, 9, 3, 2, 0, 255, 255, 0,
}

func TestReadTellsAllParts(t *testing.T) {
	f, e := layout.Read(string(small))
	want := layout.File{
		Classes: []layout.Class{
			{Above: 0, Fields: []api.Type{{Kind: 3, N: 8}}},
			{Above: 7, Fields: []api.Type{{Kind: 1}, {Kind: 9, N: 200}}},
		},
		Methods: []layout.Method{{
			Class: 7, Name: 5, Params: []api.Type{{Kind: 1}}, Result: api.Type{Kind: 3, N: 7}, Locals: 2, Stack: 3,
			Code:     []int{0, 255, 26, 22},
			Handlers: []layout.Handler{{From: 0, To: 2, Target: 3, Class: 1}, {From: 4, To: 5, Target: 6, Class: 7}},
			Maps: []layout.Map{
				{Place: 3, Locals: []api.Type{{Kind: 1}, {Kind: 0}}, Stack: []api.Type{{Kind: 3, N: 7}, {Kind: 4, N: 9}}},
				{Place: 3, Locals: []api.Type{{Kind: 2}, {Kind: 255, N: 255}}},
			},
		}},
	}
	if got := fmt.Sprintf("%+v", f); got != fmt.Sprintf("%+v", want) || e != api.OK {
		t.Errorf("Read = %s, %d, want %+v", got, e, want)
	}
	if n := f.FieldCount(); n != 3 {
		t.Errorf("FieldCount = %d", n)
	}
}

func TestWriteGivesTheSameBytes(t *testing.T) {
	f, _ := layout.Read(string(small))
	if s := layout.Write(f); s != string(small) {
		t.Errorf("Write = %q, want %q", s, small)
	}
}

func TestWithoutMapsLeavesTheFileAsItIs(t *testing.T) {
	f, _ := layout.Read(string(small))
	bare := f.WithoutMaps()
	if len(bare.Methods) != 1 || len(bare.Methods[0].Maps) != 0 {
		t.Errorf("WithoutMaps = %+v", bare)
	}
	if s := layout.Write(f); s != string(small) {
		t.Errorf("the file itself is now %q", s)
	}
}
