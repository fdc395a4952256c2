package stackmap_test

import (
	"fmt"
	"testing"

	"stackmap/api"
	"stackmap/stackmap"
)

// easy: a start from method 0 with room for everything.
func easy(inputs ...int) api.Start {
	return api.Start{Inputs: inputs, Heap: 30, Depth: 12, Fuel: 3000}
}

func returned(value, steps int, out ...int) api.Outcome {
	return api.Outcome{Out: out, Status: api.Returned, Value: value, Steps: steps}
}

func outOf(steps int, out ...int) api.Outcome {
	return api.Outcome{Out: out, Status: api.OutOf, Steps: steps}
}

func uncaught(class, steps int, out ...int) api.Outcome {
	return api.Outcome{Out: out, Status: api.Uncaught, Value: class, Steps: steps}
}

// ready: the file with its least maps.
func ready(t *testing.T, what, file string) string {
	t.Helper()
	full, e, which := stackmap.Prepare(file)
	if e != api.OK {
		t.Fatalf("%s: Prepare(%q) = %d, %d", what, file, e, which)
	}
	return full
}

// wantRun: the file, prepared, runs so, and by the words as well.
func wantRun(t *testing.T, what, file string, s api.Start, want api.Outcome) {
	t.Helper()
	full := ready(t, what, file)
	got, e := stackmap.Run(full, s)
	if fmt.Sprint(got, e) != fmt.Sprint(want, api.OK) {
		t.Errorf("%s: Run(%q, %+v) = %+v, %d, want %+v", what, full, s, got, e, want)
	}
	words, e := runByWords(full, verdict{}, s, map[string]int{})
	if fmt.Sprint(words, e) != fmt.Sprint(want, api.OK) {
		t.Errorf("%s: by the words %+v, %d, want %+v", what, words, e, want)
	}
}

// wantRefused: Run answers that error and nothing else.
func wantRefused(t *testing.T, what, file string, s api.Start, e api.Errno) {
	t.Helper()
	got, gotE := stackmap.Run(file, s)
	if gotE != e || got.Out != nil || got.Status != 0 || got.Value != 0 || got.Steps != 0 {
		t.Errorf("%s: Run(%q, %+v) = %+v, %d, want %d", what, file, s, got, gotE, e)
	}
}

// wantSame: Run answers for the file as it is what the words give, v being Check's answer.
func wantSame(t *testing.T, file string, v verdict, s api.Start, seen map[string]int) {
	t.Helper()
	want, wantE := runByWords(file, v, s, seen)
	got, e := stackmap.Run(file, s)
	if fmt.Sprint(got, e) != fmt.Sprint(want, wantE) {
		t.Errorf("Run(%q, %+v) = %+v, %d, want %+v, %d", file, s, got, e, want, wantE)
	}
}

// gives: a method without class and parameters that gives back an Int.
func gives(locals, stack int, code ...int) method {
	return method{class: api.NoClass, result: intType, locals: locals, stack: stack, code: code}
}

// start: some way to begin, seldom one that may not be.
func (d *dice) start(p program) api.Start {
	s := api.Start{Heap: d.below(31), Depth: 1 + d.below(12), Fuel: 50 + d.below(300)}
	if d.oneIn(3) {
		s.Heap = d.below(3)
	}
	if d.oneIn(3) {
		s.Fuel = d.below(60)
	}
	if d.oneIn(20) {
		s.Heap, s.Depth, s.Fuel = d.below(33)-1, d.below(15), d.below(3010)-5
	}
	if d.oneIn(6) {
		s.Entry = d.below(len(p.methods)+2) - 1
	}
	for n := d.below(21); n > 0; n-- {
		s.Inputs = append(s.Inputs, []int{0, 0, 1, -1, 2, 3, 7, api.LeastInt, api.GreatestInt}[d.below(9)])
	}
	return s
}

// Programs made at random, prepared, are run and held against the words. Where checked code does what it never should, the words' run panics.
func TestRunRandom(t *testing.T) {
	d := &dice{5}
	seen := map[string]int{}
	for n := 0; n < 3000; n++ {
		p := d.lively()
		file := ready(t, "a lively program", p.file())
		for k := 0; k < 5; k++ {
			wantSame(t, file, verdict{}, d.start(p), seen)
		}
	}
	for n := 0; n < 2000; n++ {
		p := d.program()
		if file, e, _ := stackmap.Prepare(p.file()); e == api.OK {
			wantSame(t, file, verdict{}, d.start(p), seen)
		}
	}
	wanted := []string{"thrown by Throw", "thrown out of a call", "another method answers", "status 0", "status 1", "status 2", "handler 0", "handler 1", "handler 2"}
	for op := 0; op <= 25; op++ {
		wanted = append(wanted, fmt.Sprint("instruction ", op))
	}
	for class := 2; class <= 6; class++ {
		wanted = append(wanted, fmt.Sprint("thrown: ", class))
	}
	for op := 11; op <= 14; op++ {
		wanted = append(wanted, fmt.Sprint("went: ", op))
	}
	for _, what := range wanted {
		if seen[what] < 30 {
			t.Errorf("%s: came only %d times", what, seen[what])
		}
	}
}
