package stackmap_test

import (
	"testing"

	"stackmap/api"
	"stackmap/stackmap"
)

func wantStripped(t *testing.T, what, file, bare string) {
	t.Helper()
	if s, e := stackmap.Strip(file); s != bare || e != api.OK {
		t.Errorf("%s: Strip = %q, %d, want %q", what, s, e, bare)
	}
	if s, e := stackmap.Strip(bare); s != bare || e != api.OK {
		t.Errorf("%s, stripped: Strip = %q, %d, want the same", what, s, e)
	}
}

func TestP8Strip(t *testing.T) {
	for _, c := range []struct {
		what string
		p    program
	}{{"everything", rich()}, {"the greatest file", full()}, {"a small one", program{nil, []method{plainMethod()}}}} {
		file := c.p.file()
		for i := range c.p.methods {
			c.p.methods[i].maps = nil
		}
		wantStripped(t, c.what, file, c.p.file())
	}
}

func TestP8ByBytes(t *testing.T) {
	head := text(83, 77, 0, 1, 255, 0, 0, 0, 0, 1, 2, 19, 24, 3, 0, 2, 0, 25, 2, 0, 0, 1, 8, 5, 3, 0, 12, 18, 11, 3, 22, 0)
	wantStripped(t, "B with two maps", head+text(2, 3, 1, 0, 0, 18, 1, 0, 0), head+text(0))
	wantStripped(t, "B with maps that are wrong", head+text(2, 3, 2, 0, 0, 18, 3, 6, 2, 0, 0, 1, 0), head+text(0))
}

// Errors that are none of form are none for Strip.
func TestP8WrongTypes(t *testing.T) {
	wantStripped(t, "Add", alone(method{class: 255, code: []int{api.OpAdd}}), alone(method{class: 255, code: []int{api.OpAdd}}))
	m := method{class: 255, stack: 1, code: []int{api.OpConst, 5}, maps: []stackMap{{0, nil, []pair{ref(6)}}}}
	bare := m
	bare.maps = nil
	wantStripped(t, "running off the end, with a map that the start does not fit", alone(m), alone(bare))
}
