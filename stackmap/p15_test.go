package stackmap_test

import (
	"fmt"
	"slices"
	"testing"

	"stackmap/api"
)

// thrower: code in the classes of pedigree that throws an object of a class with its last instruction, one step an instruction.
type thrower struct {
	what  string
	class int
	code  []int
}

// throwers: where method 1 is one of no class, and method 2 one of class 7.
func throwers() []thrower {
	made12 := pedigree().made(12)
	return []thrower{
		{"Div", 2, []int{0, 1, 0, 0, 10}},
		{"Div of 0", 2, []int{0, 0, 0, 0, 10}},
		{"Get", 3, []int{1, 17, 0}},
		{"Put", 3, []int{1, 0, 5, 18, 0}},
		{"Send", 3, []int{1, 21, 2}},
		{"Throw of nothing", 3, []int{1, 23}},
		{"Throw of nothing that was cast", 3, []int{1, 19, 12, 23}},
		{"Cast", 4, []int{15, 7, 5, 0, 1, 0, 2, 16, 7, 19, 9}},
		{"Throw of Fault", 1, []int{15, 1, 5, 16, 1, 23}},
		{"Throw of class 2", 2, []int{15, 2, 5, 16, 2, 23}},
		{"Throw of class 6", 6, []int{15, 6, 5, 16, 6, 23}},
		{"Throw of class 12", 12, append(made12, 23)},
		{"Throw of class 12, cast to Fault", 12, append(made12, 19, 1, 23)},
	}
}

// throwing: a file in the classes of pedigree whose method 0 has that code and these handlers.
func throwing(code []int, handlers ...handler) string {
	m := method{class: 255, locals: 1, stack: 5, code: code, handlers: handlers}
	return pedigree(m, plainMethod(), method{class: 7, locals: 1, code: []int{22}}).file()
}

func TestP15Thrown(t *testing.T) {
	for _, c := range throwers() {
		steps := len(places(c.code))
		wantRun(t, c.what, throwing(append(slices.Clone(c.code), 22)), easy(), uncaught(c.class, steps))
		wantRun(t, c.what+", behind something", throwing(append(append([]int{0, 9, 25}, c.code...), 22)), easy(), uncaught(c.class, steps+2, 9))
	}
	full, deep := api.Start{Depth: 12, Fuel: 99}, api.Start{Heap: 30, Depth: 1, Fuel: 99}
	wantRun(t, "New", throwing([]int{15, 0, 22}), full, uncaught(5, 1))
	wantRun(t, "Call", throwing([]int{20, 1, 22}), deep, uncaught(6, 1))
	wantRun(t, "Send", throwing([]int{15, 7, 5, 24, 24, 16, 7, 21, 2, 22}), deep, uncaught(6, 6))
	wantRun(t, "Send to nothing: the first of two", throwing([]int{1, 21, 2, 22}), deep, uncaught(3, 2))
}

// What lies just beside is not thrown.
func TestP15NotThrown(t *testing.T) {
	made7 := []int{15, 7, 5, 24, 24, 16, 7}
	for _, c := range []struct {
		what string
		code []int
		want api.Outcome
	}{
		{"0 by 5", []int{0, 0, 0, 5, 10, 25, 22}, returned(0, 5, 0)},
		{"Nil of nothing", []int{1, 14, 3, 22}, returned(0, 3)},
		{"Cast of nothing", []int{1, 19, 12, 4, 22}, returned(0, 4)},
		{"nothing is put", []int{1, 3, 0, 1, 4, 22}, returned(0, 5)},
		{"Get", append(slices.Clone(made7), 17, 0, 25, 22), returned(0, 8, 0)},
		{"Put", slices.Concat(made7[:2], []int{5}, made7[2:], []int{24, 18, 0, 22}), returned(0, 9)},
		{"Send", slices.Concat(made7[:2], []int{5}, made7[2:], []int{21, 2, 22}), returned(0, 9)},
		{"Call", []int{20, 1, 22}, returned(0, 3)},
	} {
		wantRun(t, c.what, throwing(c.code), api.Start{Heap: 1, Depth: 2, Fuel: 99}, c.want)
	}
}

// Every class cast to every class.
func TestP15Cast(t *testing.T) {
	p := pedigree()
	for is := 0; is <= 12; is++ {
		for to := 0; to <= 12; to++ {
			code := slices.Concat(p.made(is), []int{19, to, 4, 22})
			steps := len(places(code))
			want := returned(0, steps)
			if is != to && !p.over(is)[to] {
				want = uncaught(4, steps-2)
			}
			wantRun(t, fmt.Sprintf("an object of %d cast to %d", is, to), pedigree(method{class: 255, stack: 8, code: code}).file(), easy(), want)
		}
	}
	// The object stays what it is: cast up and down again.
	code := slices.Concat(p.made(10), []int{19, 0, 19, 7, 19, 10, 17, 5, 22})
	wantRun(t, "up and down", pedigree(gives(0, 8, code...)).file(), easy(1, 2, 3, 4, 5), returned(5, 13))
	// What the machine throws can be cast as well: Null, Throw; at 2: Cast c, Pop, Return.
	for class, want := range map[int]api.Outcome{0: returned(0, 5), 1: returned(0, 5), 3: returned(0, 5), 2: uncaught(4, 3), 7: uncaught(4, 3), 12: uncaught(4, 3)} {
		wantRun(t, fmt.Sprint("a given object, cast to ", class), throwing([]int{1, 23, 19, class, 4, 22}, handler{0, 2, 2, 1}), easy(), want)
	}
}

// As many objects as there is room for, and not one more; those that were thrown ahead do not count.
func TestP15Full(t *testing.T) {
	// At 0: New 7, Pop, Const 1, Out, Jump 0. The other one has ahead of that: Null, Throw; at 2: Pop.
	file := throwing([]int{15, 7, 4, 0, 1, 25, 11, 0})
	caught := throwing([]int{1, 23, 4, 15, 7, 4, 0, 1, 25, 11, 3}, handler{0, 2, 2, 3})
	for heap := 0; heap <= 30; heap++ {
		s := api.Start{Heap: heap, Depth: 1, Fuel: 3000}
		wantRun(t, "New until it is full", file, s, uncaught(5, 5*heap+1, repeated(heap, 1)...))
		wantRun(t, "after something was thrown", caught, s, uncaught(5, 3+5*heap+1, repeated(heap, 1)...))
	}
	// Objects of given classes count as others do: New 2, New 0.
	wantRun(t, "objects of all classes count", throwing([]int{15, 2, 4, 15, 0, 4, 15, 12, 4, 22}), api.Start{Heap: 2, Depth: 1, Fuel: 99}, uncaught(5, 5))
	// At 0: New 0, Pop, Jump 0; at 5: Pop, Const 1, Out, Jump 0. What nothing refers to any more counts all the same.
	again := throwing([]int{15, 0, 4, 11, 0, 4, 0, 1, 25, 11, 0}, handler{0, 2, 5, 5})
	wantRun(t, "full for good", again, api.Start{Heap: 2, Depth: 1, Fuel: 6 + 3*5}, outOf(21, 1, 1, 1))
	// The object made in a call that has ended counts too.
	p := pedigree(open(0, 1, []int{20, 1, 20, 1, 22}), open(0, 1, []int{15, 0, 4, 22}))
	wantRun(t, "in calls", p.file(), api.Start{Heap: 1, Depth: 2, Fuel: 99}, uncaught(5, 6))
	wantRun(t, "in calls, room", p.file(), api.Start{Heap: 2, Depth: 2, Fuel: 99}, returned(0, 9))
}

// As many open calls as may be, and not one more.
func TestP15Deep(t *testing.T) {
	// Const 1, Out, Call 0.
	call := program{nil, []method{open(0, 1, []int{0, 1, 25, 20, 0, 22})}}.file()
	// Method 1, of class 7: Const 1, Out, Load 0, Send 1, Return.
	send := program{[]class{{0, nil}}, []method{
		open(0, 2, []int{15, 7, 5, 16, 7, 21, 1, 22}),
		{class: 7, locals: 1, stack: 1, code: []int{0, 1, 25, 2, 0, 21, 1, 22}},
	}}.file()
	for depth := 1; depth <= 12; depth++ {
		s := api.Start{Heap: 1, Depth: depth, Fuel: 3000}
		wantRun(t, "Call", call, s, uncaught(6, 3*depth, repeated(depth, 1)...))
		wantRun(t, "Send", send, s, uncaught(6, 4+4*(depth-1), repeated(depth-1, 1)...))
	}
	// Calls that have ended are not open any more: by Return, and by what was thrown out of them.
	// At 0: In, Zero 10, Call 1, Jump 0; at 7: Pop, Jump 0; at 10: Return.
	for _, callee := range [][]int{{22}, {1, 23}} {
		p := program{nil, []method{
			open(0, 1, []int{24, 12, 10, 20, 1, 11, 0, 4, 11, 0, 22}, handler{3, 5, 7, 1}),
			open(0, 1, callee),
		}}
		steps := 5
		if len(callee) == 2 {
			steps = 7
		}
		wantRun(t, "again and again", p.file(), api.Start{Inputs: repeated(20, 1), Depth: 2, Fuel: 3000}, returned(0, 20*steps+3))
	}
}

// Every class that can be thrown, with a handler of every class that one can have.
func TestP15HandlerClass(t *testing.T) {
	p := pedigree()
	for _, is := range []int{1, 2, 3, 4, 5, 6, 12} {
		for _, of := range []int{1, 2, 3, 4, 5, 6, 12} {
			code := append(p.made(is), 23)
			target := len(code)
			steps := len(places(code))
			want := uncaught(is, steps)
			if is == of || of == 1 {
				want = returned(0, steps+4, 8)
			}
			wantRun(t, fmt.Sprintf("an object of %d, a handler of %d", is, of), throwing(append(code, 4, 0, 8, 25, 22), handler{0, target, target, of}), easy(), want)
		}
	}
	for _, c := range throwers() {
		to := len(c.code)
		code := append(slices.Clone(c.code), 22, 4, 22)
		steps := len(places(c.code))
		for _, of := range []int{c.class, 1} {
			wantRun(t, c.what+", caught", throwing(code, handler{0, to, to + 1, of}), easy(), returned(0, steps+2))
		}
		wantRun(t, c.what+", a handler of another class", throwing(code, handler{0, to, to + 1, 5}), easy(), uncaught(c.class, steps))
	}
	// Own faults below one another, and below a given one: 7 below 2, 8 below 7, 9 below 2.
	tree := []class{{2, nil}, {7, nil}, {2, nil}}
	for is := 7; is <= 9; is++ {
		for _, of := range []int{1, 2, 3, 7, 8, 9} {
			want := uncaught(is, 4)
			if of < 3 || of == is || is == 8 && of == 7 {
				want = returned(0, 6)
			}
			m := open(0, 2, []int{15, is, 5, 16, is, 23, 4, 22}, handler{0, 6, 6, of})
			wantRun(t, fmt.Sprintf("an own fault %d, a handler of %d", is, of), program{tree, []method{m}}.file(), easy(), want)
		}
	}
}

// From, to: the place counts at which it is thrown. Of several handlers the first that takes it.
func TestP15HandlerRange(t *testing.T) {
	// Const 1, Const 0, at 4: Div, Out, Return; at 7 and at 12: Pop, Const, Out, Return.
	code := []int{0, 1, 0, 0, 10, 25, 22, 4, 0, 70, 25, 22, 4, 0, 120, 25, 22}
	begins := []int{0, 2, 4, 5, 6}
	for _, from := range begins {
		for _, to := range []int{2, 4, 5, 6, 7} {
			if from >= to {
				continue
			}
			want := uncaught(2, 3)
			if from <= 4 && to > 4 {
				want = returned(0, 7, 70)
			}
			wantRun(t, fmt.Sprintf("from %d to %d", from, to), throwing(code, handler{from, to, 7, 2}), easy(), want)
		}
	}
	one, two := returned(0, 7, 70), returned(0, 7, 120)
	for _, c := range []struct {
		what     string
		handlers []handler
		want     api.Outcome
	}{
		{"both suit", []handler{{0, 5, 7, 2}, {0, 5, 12, 2}}, one},
		{"the first is wider", []handler{{0, 7, 7, 1}, {4, 5, 12, 2}}, one},
		{"the first is narrower", []handler{{4, 5, 12, 2}, {0, 7, 7, 1}}, two},
		{"the first is of another class", []handler{{0, 7, 7, 3}, {0, 7, 12, 1}}, two},
		{"the first is of other places", []handler{{0, 4, 7, 2}, {2, 5, 12, 2}}, two},
		{"the fourth", []handler{{0, 4, 7, 1}, {5, 7, 7, 1}, {0, 5, 7, 4}, {4, 5, 12, 1}}, two},
		{"none of four", []handler{{0, 4, 7, 1}, {5, 7, 7, 1}, {0, 5, 7, 4}, {4, 5, 12, 12}}, uncaught(2, 3)},
		{"up to the code's end", []handler{{0, 17, 7, 2}}, one},
	} {
		wantRun(t, c.what, throwing(code, c.handlers...), easy(), c.want)
	}
	// Jump 6; at 2: Pop, Const 3, Return; at 6: Null, Throw.
	m := gives(0, 1, 11, 6, 4, 0, 3, 22, 1, 23)
	m.handlers = []handler{{6, 8, 2, 3}}
	wantRun(t, "a target further ahead", alone(m), easy(), returned(3, 6))
}

// The stack holds the object alone, the locals are as they were, and the object is the one that was thrown.
func TestP15WhatIsTaken(t *testing.T) {
	// Const 44, Store 0, Const 1, Const 2, New 12, Dup, In, In, Init 12, Throw; then Cast 12, Dup, Get 7, Out, Get 8, Out, Load 0, Return.
	code := slices.Concat([]int{0, 44, 3, 0, 0, 1, 0, 2}, pedigree().made(12), []int{23})
	target := len(code)
	m := gives(1, 8, append(code, 19, 12, 5, 17, 7, 25, 17, 8, 25, 2, 0, 22)...)
	m.handlers = []handler{{4, target, target, 12}}
	wantRun(t, "the object with its fields", pedigree(m).file(), easy(5, 6), returned(44, 18, 5, 6))

	// In, Store 0, In, In, Div, Store 0, Load 0, Return; at 11: Pop, Load 0, Return.
	m = gives(1, 2, 24, 3, 0, 24, 24, 10, 3, 0, 2, 0, 22, 4, 2, 0, 22)
	m.handlers = []handler{{3, 8, 11, 2}}
	wantRun(t, "thrown: the local stays", alone(m), easy(5, 6, 0), returned(5, 8))
	wantRun(t, "not thrown", alone(m), easy(5, 6, 2), returned(3, 8))
	// Eight high, Div, Return; at 10, upon what was caught: In seven times, Out seven times, Throw.
	high := slices.Concat(repeated(8, 24), []int{10, 22}, repeated(7, 24), repeated(7, 25), []int{23})
	m = method{class: 255, stack: 8, code: high, handlers: []handler{{0, 10, 10, 1}}}
	wantRun(t, "the stack has room again", alone(m), easy(1, 2, 3, 4, 5, 6, 7, 0, 9), uncaught(2, 9+15, 0, 0, 0, 0, 0, 0, 9))
	// In, In, Div, Return; at 4: Pop, In, Return.
	m = gives(0, 2, 24, 24, 10, 22, 4, 24, 22)
	m.handlers = []handler{{2, 3, 4, 2}}
	wantRun(t, "what was read is read", alone(m), easy(1, 0, 7), returned(7, 6))
}

// A Call that throws opens no call: as many may be opened as before.
func TestP15DoesNothingElse(t *testing.T) {
	p := program{nil, []method{
		// Call 1, Return; at 3: Pop, Const 1, Out, Call 2, Out, Return.
		open(0, 1, []int{20, 1, 22, 4, 0, 1, 25, 20, 2, 25, 22}, handler{0, 2, 3, 6}),
		// Call 3, Return; at 3: Throw.
		open(0, 1, []int{20, 3, 22, 23}, handler{0, 2, 3, 6}),
		gives(0, 1, 0, 2, 22),
		// Call 2, Pop, Return.
		open(0, 1, []int{20, 2, 4, 22}),
	}}
	wantRun(t, "method 1 opens one too many", p.file(), api.Start{Depth: 2, Fuel: 99}, returned(0, 11, 1, 2))
	wantRun(t, "method 3 opens one too many", p.file(), api.Start{Depth: 3, Fuel: 99}, returned(0, 12, 1, 2))
	wantRun(t, "there is room", p.file(), api.Start{Depth: 4, Fuel: 99}, returned(0, 9))
}

// passing: method 0 calls 1, which calls 2, which calls 3, which throws: In, In, Div, Pop, Return. Each has In, Out ahead of its Call at 2, Const, Out behind it at 4; at 8 and at 13 what handlers may go to: Pop, Const, Out, Return.
func passing(handlers ...[]handler) string {
	p := program{}
	for n := 0; n < 3; n++ {
		p.methods = append(p.methods, open(0, 2, []int{24, 25, 20, n + 1, 0, 10 + n, 25, 22, 4, 0, 20 + n, 25, 22, 4, 0, 30 + n, 25, 22}, handlers[n]...))
	}
	p.methods = append(p.methods, open(0, 2, []int{24, 24, 10, 4, 22}, handlers[3]...))
	return p.file()
}

// What no handler takes goes on to the call that opened the call, at the place of its Call.
func TestP15ThroughCalls(t *testing.T) {
	none, all := []handler(nil), []handler{{0, 8, 8, 1}}
	s := easy(1, 2, 3, 5, 0)
	wantRun(t, "nothing thrown", passing(none, none, none, none), easy(1, 2, 3, 8, 2), returned(0, 3*3+5+3*3, 1, 2, 3, 12, 11, 10))
	for _, c := range []struct {
		what string
		file string
		want api.Outcome
	}{
		{"none takes it", passing(none, none, none, none), uncaught(2, 12, 1, 2, 3)},
		{"the first call takes it", passing(all, none, none, none), returned(0, 12+4, 1, 2, 3, 20)},
		{"the second", passing(none, all, none, none), returned(0, 12+4+3, 1, 2, 3, 21, 10)},
		{"the third", passing(none, none, all, none), returned(0, 12+4+6, 1, 2, 3, 22, 11, 10)},
		{"of two the one that was opened later", passing(all, none, all, none), returned(0, 12+4+6, 1, 2, 3, 22, 11, 10)},
		{"of all the one that was opened last", passing(all, all, all, none), returned(0, 12+4+6, 1, 2, 3, 22, 11, 10)},
		{"the class counts", passing(all, []handler{{0, 8, 8, 3}}, []handler{{0, 8, 8, 4}}, none), returned(0, 12+4, 1, 2, 3, 20)},
		{"the place of the Call alone", passing(none, []handler{{2, 4, 8, 2}}, none, none), returned(0, 12+4+3, 1, 2, 3, 21, 10)},
		{"not the place behind the Call", passing(none, []handler{{4, 8, 8, 2}}, none, none), uncaught(2, 12, 1, 2, 3)},
		{"not the places ahead of the Call", passing(none, []handler{{0, 2, 8, 2}}, none, none), uncaught(2, 12, 1, 2, 3)},
		{"of several the first that takes it", passing(none, []handler{{0, 2, 13, 2}, {2, 4, 13, 3}, {2, 4, 8, 1}, {0, 8, 13, 2}}, none, none), returned(0, 12+4+3, 1, 2, 3, 21, 10)},
		{"the same in another order", passing(none, []handler{{0, 2, 8, 2}, {0, 8, 13, 2}, {2, 4, 8, 3}, {2, 4, 8, 1}}, none, none), returned(0, 12+4+3, 1, 2, 3, 31, 10)},
		{"the places of the one that throws are its own", passing([]handler{{2, 4, 8, 2}}, none, none, []handler{{0, 2, 3, 2}, {3, 5, 3, 2}}), returned(0, 12+4, 1, 2, 3, 20)},
	} {
		wantRun(t, c.what, c.file, s, c.want)
	}
}

// Likewise of a Send; a call that ended gives nothing back, and the caller's stack holds the object alone.
func TestP15ThroughSend(t *testing.T) {
	// Const 1, Const 2, New 7, Dup, Init 7, Const 3, at 11: Send 1, Return; at 14: Cast 2, Pop, Const 9, Return.
	m := gives(0, 8, 0, 1, 0, 2, 15, 7, 5, 16, 7, 0, 3, 21, 1, 22, 19, 2, 4, 0, 9, 22)
	// In, Load 1, Const 0, Div, Return.
	throws := method{class: 7, params: []pair{intType}, result: intType, locals: 2, stack: 3, code: []int{24, 2, 1, 0, 0, 10, 22}}
	m.handlers = []handler{{11, 13, 14, 1}}
	wantRun(t, "taken", program{[]class{{0, nil}}, []method{m, throws}}.file(), easy(), returned(9, 7+4+4))
	m.handlers = []handler{{0, 11, 14, 1}, {13, 14, 14, 1}}
	wantRun(t, "not taken", program{[]class{{0, nil}}, []method{m, throws}}.file(), easy(), uncaught(2, 7+4))
}

// A handler's own instructions are as others: what they throw goes to the first handler that they lie in, or out of the call.
func TestP15ThrownAgain(t *testing.T) {
	// Null, Throw; at 2: Throw; at 3: Pop, Const 5, Return.
	m := gives(0, 1, 1, 23, 23, 4, 0, 5, 22)
	for _, c := range []struct {
		what     string
		handlers []handler
		want     api.Outcome
	}{
		{"out of the call", []handler{{0, 2, 2, 1}}, uncaught(3, 3)},
		{"to another", []handler{{0, 2, 2, 1}, {2, 3, 3, 3}}, returned(5, 6)},
		{"another of another class", []handler{{0, 2, 2, 1}, {2, 3, 3, 2}}, uncaught(3, 3)},
		{"to itself, until the fuel is out", []handler{{0, 3, 2, 1}}, outOf(99)},
		{"the first that takes it, even if it is its own", []handler{{0, 3, 2, 1}, {2, 3, 3, 3}}, outOf(99)},
		{"another ahead of its own", []handler{{2, 3, 3, 3}, {0, 3, 2, 1}}, returned(5, 6)},
	} {
		m.handlers = c.handlers
		wantRun(t, c.what, alone(m), api.Start{Depth: 1, Fuel: 99}, c.want)
	}
	// Out of the handler of a call to the call that opened it: what is thrown there counts. Null, Throw; at 2: Const 0, Dup, Div, Return.
	inner := method{class: 255, result: intType, stack: 3, code: []int{1, 23, 0, 0, 5, 10, 22}, handlers: []handler{{0, 2, 2, 1}}}
	for of, want := range map[int]api.Outcome{1: returned(8, 9), 2: returned(8, 9), 3: uncaught(2, 6)} {
		outer := gives(0, 1, 20, 1, 22, 4, 0, 8, 22)
		outer.handlers = []handler{{0, 2, 3, of}}
		wantRun(t, "another object out of a handler", program{nil, []method{outer, inner}}.file(), easy(), want)
	}
}

// What was caught may be kept, and thrown later.
func TestP15ThrownLater(t *testing.T) {
	// Null, Throw; at 2: Store 0, Const 1, Out, Const 0, Dup, Div; at 11: Pop, Load 0, Throw.
	m := open(1, 2, []int{1, 23, 3, 0, 0, 1, 25, 0, 0, 5, 10, 4, 2, 0, 23}, handler{0, 2, 2, 3}, handler{4, 11, 11, 2})
	wantRun(t, "the first one again", alone(m), easy(), uncaught(3, 11, 1))
}
