package stackmap_test

import (
	"testing"

	"stackmap/api"
)

// The document's examples: B without how many maps there are and these, C without its handler and maps.
var (
	noClass  = text(83, 77, 0, 1, 255, 0, 0)
	oneClass = text(83, 77, 1, 0, 1, 1, 0, 1, 255, 0, 0)

	exampleA = noClass + text(1, 0, 1, 2, 9, 24, 3, 0, 2, 0, 0, 1, 7, 22, 0, 0)
	exampleB = noClass + text(0, 0, 1, 2, 19, 24, 3, 0, 2, 0, 25, 2, 0, 0, 1, 8, 5, 3, 0, 12, 18, 11, 3, 22, 0)
	exampleC = noClass + text(1, 0, 0, 2, 9, 0, 6, 24, 10, 22, 4, 0, 255, 22, 1)
	exampleD = oneClass + text(1, 0, 0, 3, 10, 15, 7, 5, 0, 9, 16, 7, 17, 0, 22, 0, 0)
)

func TestExamplesOfCheck(t *testing.T) {
	a, b, c, d := exampleA, exampleB, exampleC, exampleD
	wantAll(t, []checked{
		{"A", a, api.OK, 0, 0},
		{"B without maps", b + text(0), api.ErrNoMap, 0, 14},
		{"B prepared", b + text(2, 3, 1, 0, 0, 18, 1, 0, 0), api.OK, 0, 0},
		{"B, Top at 3", b + text(2, 3, 0, 0, 0, 18, 1, 0, 0), api.ErrType, 0, 3},
		{"B, Null at 3", b + text(2, 3, 2, 0, 0, 18, 1, 0, 0), api.ErrFlow, 0, 1},
		{"B, Top at 18", b + text(2, 3, 1, 0, 0, 18, 0, 0, 0), api.OK, 0, 0},
		{"B, no map at 18", b + text(1, 3, 1, 0, 0), api.ErrNoMap, 0, 14},
		{"B, its maps not in their order", b + text(2, 18, 1, 0, 0, 3, 1, 0, 0), api.ErrMap, 0, 1},
		{"C without maps", c + text(0, 4, 5, 2, 0), api.ErrNoMap, 0, 0},
		{"C prepared", c + text(0, 4, 5, 2, 1, 5, 1, 3, 2), api.OK, 0, 0},
		{"C, another handler", c + text(0, 4, 5, 3, 1, 5, 1, 3, 3), api.OK, 0, 0},
		{"C, a handler of Object", c + text(0, 4, 5, 0, 0), api.ErrHandler, 0, 0},
		{"C, a handler's to within an instruction", c + text(0, 1, 5, 2, 0), api.ErrHandler, 0, 0},
		{"Add", noClass + text(0, 0, 0, 0, 1, 7, 0, 0), api.ErrType, 0, 0},
		{"Const 5", noClass + text(0, 0, 0, 1, 2, 0, 5, 0, 0), api.ErrEnd, 0, 0},
		{"Const without its byte", noClass + text(0, 0, 0, 1, 1, 0, 0, 0), api.ErrCode, 0, 0},
		{"D", d, api.OK, 0, 0},
		{"Get of what is not set", oneClass + text(1, 0, 0, 3, 5, 15, 7, 17, 0, 22, 0, 0), api.ErrType, 0, 2},
		{"Get of nothing", oneClass + text(1, 0, 0, 3, 4, 1, 17, 0, 22, 0, 0), api.OK, 0, 0},
	})
}

func TestExamplesOfPrepare(t *testing.T) {
	a, b, c, d := exampleA, exampleB, exampleC, exampleD
	full := b + text(2, 3, 1, 0, 0, 18, 1, 0, 0)
	wantFull(t, "A", a, a)
	wantFull(t, "B without maps", b+text(0), full)
	wantFull(t, "B, Top at 3", b+text(2, 3, 0, 0, 0, 18, 1, 0, 0), full)
	wantFull(t, "B, Null at 3", b+text(2, 3, 2, 0, 0, 18, 1, 0, 0), full)
	wantFull(t, "B, Top at 18", b+text(2, 3, 1, 0, 0, 18, 0, 0, 0), full)
	wantFull(t, "B, no map at 18", b+text(1, 3, 1, 0, 0), full)
	wantError(t, "B, its maps not in their order", b+text(2, 18, 1, 0, 0, 3, 1, 0, 0), api.ErrMap, 0, 1)
	wantFull(t, "C", c+text(0, 4, 5, 2, 0), c+text(0, 4, 5, 2, 1, 5, 1, 3, 2))
	wantFull(t, "C, another handler", c+text(0, 4, 5, 3, 0), c+text(0, 4, 5, 3, 1, 5, 1, 3, 3))
	wantError(t, "C, a handler of Object", c+text(0, 4, 5, 0, 0), api.ErrHandler, 0, 0)
	wantNone(t, "Add", noClass+text(0, 0, 0, 0, 1, 7, 0, 0), 0)
	wantNone(t, "Const 5", noClass+text(0, 0, 0, 1, 2, 0, 5, 0, 0), 0)
	wantError(t, "Const without its byte", noClass+text(0, 0, 0, 1, 1, 0, 0, 0), api.ErrCode, 0, 0)
	wantFull(t, "D", d, d)
	wantNone(t, "Get of what is not set", oneClass+text(1, 0, 0, 3, 5, 15, 7, 17, 0, 22, 0, 0), 0)
}

func TestExamplesOfRun(t *testing.T) {
	a, b, c, d := exampleA, exampleB, exampleC, exampleD
	s := api.Start{Inputs: []int{41}, Depth: 1, Fuel: 9}
	wantRun(t, "A", a, s, returned(42, 6))
	s.Fuel = 5
	wantRun(t, "A with fuel 5", a, s, outOf(5))
	s.Fuel = 6
	wantRun(t, "A with fuel 6", a, s, returned(42, 6))
	s.Inputs = []int{2147483647}
	wantRun(t, "A with the greatest number", a, s, returned(-2147483648, 6))
	wantRefused(t, "B without maps", b+text(0), easy(3), api.ErrNoMap)
	wantRun(t, "B", b+text(0), easy(3), returned(0, 29, 3, 2, 1))
	wantRun(t, "C", c+text(0, 4, 5, 2, 0), easy(3), returned(2, 4))
	wantRun(t, "C with no input", c+text(0, 4, 5, 2, 0), easy(), returned(-1, 6))
	wantRun(t, "C, another handler", c+text(0, 4, 5, 3, 0), easy(), uncaught(2, 3))
	wantRun(t, "D with heap 1", d, api.Start{Heap: 1, Depth: 1, Fuel: 9}, returned(9, 6))
	wantRun(t, "D with heap 0", d, api.Start{Depth: 1, Fuel: 9}, uncaught(5, 1))
	wantRun(t, "Get of nothing", oneClass+text(1, 0, 0, 3, 4, 1, 17, 0, 22, 0, 0), easy(), uncaught(3, 2))
}
