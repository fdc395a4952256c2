package stackmap_test

import (
	"testing"

	"stackmap/api"
)

// wrongStarts: starts that may not be, whatever the file; those of the first list for their entry.
func wrongStarts() ([]api.Start, []api.Start) {
	with := func(change func(s *api.Start)) api.Start {
		s := easy(1, 2)
		change(&s)
		return s
	}
	var entries, args []api.Start
	for _, n := range []int{leastOfAll, -1, 6, 7, 255, 256, greatestOfAll} {
		entries = append(entries, with(func(s *api.Start) { s.Entry = n }))
		entries = append(entries, with(func(s *api.Start) { s.Entry, s.Heap, s.Depth, s.Fuel = n, -1, 0, -1 }))
	}
	for _, n := range []int{leastOfAll, -1, 31, greatestOfAll} {
		args = append(args, with(func(s *api.Start) { s.Heap = n }))
	}
	for _, n := range []int{leastOfAll, -1, 0, 13, greatestOfAll} {
		args = append(args, with(func(s *api.Start) { s.Depth = n }))
	}
	for _, n := range []int{leastOfAll, -1, 3001, greatestOfAll} {
		args = append(args, with(func(s *api.Start) { s.Fuel = n }))
	}
	for _, n := range []int{21, 22, 1000} {
		args = append(args, with(func(s *api.Start) { s.Inputs = make([]int, n) }))
	}
	for _, n := range []int{leastOfAll, api.LeastInt - 1, api.GreatestInt + 1, greatestOfAll} {
		for at := 0; at < 20; at++ {
			l := make([]int, 20)
			l[at] = n
			args = append(args, with(func(s *api.Start) { s.Inputs = l }))
		}
	}
	return entries, args
}

func TestP13CheckFirst(t *testing.T) {
	entries, args := wrongStarts()
	starts := append([]api.Start{easy(), {}}, append(entries, args...)...)
	right := plainMethod()
	for e, file := range map[api.Errno]string{
		api.ErrLong:    string(make([]byte, 15001)),
		api.ErrForm:    "SM",
		api.ErrClass:   withClasses(class{7, nil}),
		api.ErrMethod:  alone(method{class: 255, name: 1, code: []int{22}}),
		api.ErrCode:    program{nil, []method{right, {class: 255, code: []int{26}}}}.file(),
		api.ErrHandler: program{nil, []method{right, {class: 255, code: []int{22}, handlers: []handler{{0, 1, 0, 0}}}}}.file(),
		api.ErrMap:     program{nil, []method{right, {class: 255, code: []int{22}, maps: []stackMap{{1, nil, nil}}}}}.file(),
		api.ErrNoMap:   program{nil, []method{right, {class: 255, code: []int{11, 0}}}}.file(),
		api.ErrFlow:    program{nil, []method{right, {class: 255, stack: 1, code: []int{22}, maps: []stackMap{{0, nil, []pair{intType}}}}}}.file(),
		api.ErrType:    program{nil, []method{right, {class: 255, code: []int{25}}}}.file(),
		api.ErrEnd:     program{nil, []method{right, {class: 255, stack: 1, code: []int{24}}}}.file(),
	} {
		for _, s := range starts {
			wantRefused(t, "an error of Check's", file, s, e)
		}
	}
	wantRun(t, "no error", alone(right), easy(), returned(0, 1))
}

// doors: methods of all kinds. That with the number n, if a run may begin with it, gives back n.
func doors() string {
	give := func(n int) method { return gives(0, 1, 0, n, 22) }
	return program{[]class{{0, nil}}, []method{
		give(0),
		{class: 255, params: []pair{intType}, result: intType, locals: 1, stack: 1, code: []int{2, 0, 22}},
		{class: 7, result: intType, locals: 1, stack: 1, code: []int{0, 2, 22}},
		give(3),
		{class: 7, name: 1, params: []pair{ref(7)}, locals: 2, code: []int{22}},
		give(5),
	}}.file()
}

func TestP13Entry(t *testing.T) {
	entries, args := wrongStarts()
	for _, s := range entries {
		wantRefused(t, "no such method", doors(), s, api.ErrEntry)
	}
	for n := 0; n < 6; n++ {
		s := easy()
		s.Entry = n
		if n == 0 || n == 3 || n == 5 {
			wantRun(t, "a method to begin with", doors(), s, returned(n, 2))
			continue
		}
		wantRefused(t, "a method of a class, or with parameters", doors(), s, api.ErrEntry)
		for _, s := range args {
			s.Entry = n
			wantRefused(t, "the entry ahead of the rest", doors(), s, api.ErrEntry)
		}
	}
	s := easy()
	s.Entry = 1
	wantRefused(t, "one method alone", alone(plainMethod()), s, api.ErrEntry)
}

func TestP13Args(t *testing.T) {
	_, args := wrongStarts()
	for _, s := range args {
		wantRefused(t, "an argument that may not be", doors(), s, api.ErrArg)
		// The method does not read it: it may not be all the same.
		wantRefused(t, "an argument that may not be", alone(plainMethod()), s, api.ErrArg)
	}
	file := alone(plainMethod())
	for _, heap := range []int{0, 1, 30} {
		for _, depth := range []int{1, 2, 12} {
			for _, fuel := range []int{1, 2, 3000} {
				for _, inputs := range [][]int{nil, {}, {0}, {api.LeastInt, api.GreatestInt}, repeated(20, api.LeastInt), repeated(20, api.GreatestInt)} {
					wantRun(t, "arguments that may be", file, api.Start{Inputs: inputs, Heap: heap, Depth: depth, Fuel: fuel}, returned(0, 1))
				}
			}
		}
	}
	wantRun(t, "no fuel", file, api.Start{Depth: 1}, outOf(0))
}

// winding: method 0 calls method 1 in a loop; that divides by what it reads; what is thrown is caught where it was called.
func winding() string {
	return program{nil, []method{
		// In, Out, at 2: Call 1, Out; at 5: In, Zero 0, Const 7, Return; at 11: Pop, Const 99, Out, Jump 5.
		{class: 255, result: intType, stack: 1, code: []int{24, 25, 20, 1, 25, 24, 12, 0, 0, 7, 22, 4, 0, 99, 25, 11, 5}, handlers: []handler{{2, 4, 11, 2}}},
		// Const 100, In, Div, Return.
		gives(0, 2, 0, 100, 24, 10, 22),
	}}.file()
}

func TestP13Fuel(t *testing.T) {
	s := easy(1, 5, 0, 2, 0, 1)
	for fuel := 0; fuel <= 30; fuel++ {
		s.Fuel = fuel
		var out []int
		for _, w := range [][2]int{{2, 1}, {8, 20}, {12, 2}, {19, 99}} {
			if w[0] <= fuel {
				out = append(out, w[1])
			}
		}
		want := outOf(fuel, out...)
		if fuel >= 24 {
			want = returned(7, 24, 1, 20, 2, 99)
		}
		wantRun(t, "through calls and handlers", winding(), s, want)
	}
	for fuel := 0; fuel <= 4; fuel++ {
		s := api.Start{Depth: 1, Fuel: fuel}
		thrown, full, over := outOf(min(fuel, 2)), outOf(min(fuel, 1)), outOf(fuel)
		if fuel >= 2 {
			thrown = uncaught(3, 2)
		}
		if fuel >= 1 {
			full = uncaught(5, 1)
		}
		wantRun(t, "what the last instruction throws is thrown", bare(1, []int{1, 23}, nil), s, thrown)
		wantRun(t, "what the first one throws too", bare(1, []int{15, 0, 22}, nil), s, full)
		wantRun(t, "what is caught is caught without another instruction", bare(1, []int{1, 23, 23}, []handler{{0, 3, 2, 1}}), s, over)
	}
}

func TestP13WithoutEnd(t *testing.T) {
	for _, fuel := range []int{0, 1, 2, 3, 299, 300, 3000} {
		s := api.Start{Depth: 1, Fuel: fuel}
		wantRun(t, "Jump to itself", bare(1, []int{11, 0}, nil), s, outOf(fuel))
		wantRun(t, "writing", bare(1, []int{0, 200, 25, 11, 0}, nil), s, outOf(fuel, repeated((fuel+1)/3, -56)...))
	}
}

// Value is 0 with OutOf, whatever lies on the stack; the outcome has nothing of a run before.
func TestP13Outcome(t *testing.T) {
	file := alone(gives(0, 2, 0, 9, 25, 0, 8, 22))
	for fuel, want := range []api.Outcome{outOf(0), outOf(1), outOf(2, 9), outOf(3, 9), returned(8, 4, 9), returned(8, 4, 9)} {
		wantRun(t, "a little more each time", file, api.Start{Depth: 1, Fuel: fuel}, want)
	}
	wantRun(t, "at place 0 of another method", program{nil, []method{gives(0, 1, 0, 1, 22), gives(0, 1, 0, 2, 22)}}.file(), api.Start{Entry: 1, Depth: 1, Fuel: 9}, returned(2, 2))
	wantRun(t, "place 0 has a map", alone(gives(0, 1, 24, 12, 0, 0, 4, 22)), easy(0, 0, 1), returned(4, 8))
}
