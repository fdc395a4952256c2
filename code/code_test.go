package code_test

import (
	"fmt"
	"testing"

	"stackmap/code"
)

func TestRead(t *testing.T) {
	list, at, ok := code.Read([]int{1, 0, 15, 15, 0, 22})
	if want := "[{0 1 0} {1 0 15} {3 15 0} {5 22 0}]"; fmt.Sprint(list) != want || at != 0 || !ok {
		t.Errorf("Read = %v, %d, %v, want %s", list, at, ok, want)
	}
	for place, want := range []struct{ begins, isNew bool }{{true, false}, {true, false}, {false, false}, {true, true}, {false, false}, {true, false}, {false, false}} {
		if begins := code.Begins(list, place); begins != want.begins {
			t.Errorf("Begins(%d) = %v", place, begins)
		}
		if isNew := code.IsNew(list, place); isNew != want.isNew {
			t.Errorf("IsNew(%d) = %v", place, isNew)
		}
	}
}

func TestReadOne(t *testing.T) {
	bytes := []int{1, 0, 255, 26, 15}
	for place, want := range []string{"{0 1 0} true", "{1 0 255} true", "{0 0 0} false", "{0 0 0} false", "{0 0 0} false", "{0 0 0} false"} {
		one, ok := code.ReadOne(bytes, place)
		if got := fmt.Sprint(one, ok); got != want {
			t.Errorf("ReadOne at %d = %s, want %s", place, got, want)
		}
	}
	if one, ok := code.ReadOne(bytes, -1); ok {
		t.Errorf("ReadOne at -1 = %v", one)
	}
}

func TestReadRefuses(t *testing.T) {
	for _, c := range []struct {
		bytes []int
		at    int
	}{{[]int{26}, 0}, {[]int{22, 255, 22}, 1}, {[]int{22, -1}, 1}, {[]int{0}, 0}, {[]int{0, 0, 21}, 2}} {
		if list, at, ok := code.Read(c.bytes); len(list) != 0 || at != c.at || ok {
			t.Errorf("Read(%v) = %v, %d, %v, want place %d", c.bytes, list, at, ok, c.at)
		}
	}
}

func TestWays(t *testing.T) {
	for op := 0; op <= 25; op++ {
		toN, on := op >= 11 && op <= 14, op != 11 && op != 22 && op != 23
		if code.GoesToN(op) != toN || code.GoesOn(op) != on {
			t.Errorf("instruction %d: GoesToN %v, GoesOn %v", op, code.GoesToN(op), code.GoesOn(op))
		}
	}
}
