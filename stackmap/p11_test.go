package stackmap_test

import (
	"fmt"
	"slices"
	"testing"

	"stackmap/api"
)

// checked: what Check is to answer for a file.
type checked struct {
	what, file string
	e          api.Errno
	which, at  int
}

func wantAll(t *testing.T, list []checked) {
	t.Helper()
	for _, c := range list {
		wantCheck(t, c.what, c.file, c.e, c.which, c.at)
	}
}

// bare: a file of one method that gives nothing back and has one local.
func bare(stack int, code []int, handlers []handler, maps ...stackMap) string {
	return alone(method{class: api.NoClass, locals: 1, stack: stack, code: code, handlers: handlers, maps: maps})
}

// at: a map for one local.
func at(place int, local pair, stack ...pair) stackMap {
	return stackMap{place, []pair{local}, stack}
}

func TestP11Start(t *testing.T) {
	throws := []int{api.OpLoad, 0, api.OpThrow}
	guard := []handler{{0, 3, 0, 1}}
	with := func(e api.Errno, place int, m stackMap) checked {
		return checked{fmt.Sprint("at the start ", m), bare(1, throws, nil, m), e, 0, place}
	}
	wantAll(t, []checked{
		with(api.ErrType, 0, at(0, topType)), with(api.ErrFlow, 0, at(0, ref(1))), with(api.ErrFlow, 0, at(0, nullType)), with(api.ErrFlow, 0, at(0, topType, ref(1))),
		{"ahead of the handlers", bare(1, throws, guard, at(0, intType)), api.ErrFlow, 0, 0},
		{"handlers, no map", bare(1, throws, guard), api.ErrNoMap, 0, 0},
		{"without a map the start frame", bare(1, throws, nil), api.ErrType, 0, 0},
		{"not ahead of an earlier method", program{nil, []method{plainMethod(), {class: 255, stack: 1, code: []int{24, 24, 22}}, {class: 255, stack: 1, code: []int{22}, maps: []stackMap{{0, nil, []pair{intType}}}}}}.file(), api.ErrType, 1, 1},
		{"of a later method", program{nil, []method{plainMethod(), {class: 255, stack: 1, code: []int{22}, maps: []stackMap{{0, nil, []pair{intType}}}}, {class: 255, code: []int{24}}}}.file(), api.ErrFlow, 1, 0},
	})
}

func TestP11WhatStandsAhead(t *testing.T) {
	wantAll(t, []checked{
		{"behind Return nothing", bare(0, []int{22, 4, 25, 7, 2, 0}, nil), api.OK, 0, 0},
		{"behind Throw nothing", bare(1, []int{1, 23, 4, 25, 23}, nil), api.OK, 0, 0},
		{"behind Jump nothing", bare(0, []int{11, 0, 4, 25, 11, 0}, nil, at(0, topType)), api.OK, 0, 0},
		{"a jump that is not looked at wants no map", bare(0, []int{22, 11, 0}, nil), api.OK, 0, 0},
		{"the last, not looked at, may go on", bare(0, []int{22, 24}, nil), api.OK, 0, 0},
		{"behind Zero a frame", bare(1, []int{24, 12, 4, 25, 22}, nil, at(4, topType)), api.ErrType, 0, 3},
		{"behind Less a frame", bare(2, []int{24, 24, 13, 5, 25, 22}, nil, at(5, topType)), api.ErrType, 0, 4},
		{"behind Nil a frame", bare(1, []int{1, 14, 4, 25, 22}, nil, at(4, topType)), api.ErrType, 0, 3},
		{"behind Call a frame", bare(0, []int{20, 0, 25}, nil), api.ErrType, 0, 2},
		{"a map begins again", bare(0, []int{22, 4, 4, 25, 22}, nil, at(3, topType)), api.ErrType, 0, 3},
		{"and from it on frames stand", bare(1, []int{22, 4, 24, 4, 4, 22}, nil, at(2, topType)), api.ErrType, 0, 4},
		{"what nothing goes to is looked at if it has a map", bare(1, []int{22, 25, 22}, nil, at(1, topType, intType)), api.OK, 0, 0},
		{"the map, not what came", bare(1, []int{24, 25, 22}, nil, at(1, topType, topType)), api.ErrType, 0, 1},
		{"the map, not what came, in a local", bare(1, []int{24, 3, 0, 2, 0, 22}, nil, at(3, topType)), api.ErrType, 0, 3},
		{"without a map what came", bare(1, []int{24, 3, 0, 2, 0, 25, 22}, nil), api.OK, 0, 0},
		{"a map that only an island fits", bare(1, []int{22, 2, 0, 25, 22}, nil, at(1, intType)), api.OK, 0, 0},
	})
}

// Example B's loop, its maps one by one made stronger or weaker.
func TestP11ErrNoMapAndErrFlow(t *testing.T) {
	code := []int{24, 3, 0, 2, 0, 25, 2, 0, 0, 1, 8, 5, 3, 0, 12, 18, 11, 3, 22}
	b := func(maps ...stackMap) string { return bare(2, code, nil, maps...) }
	wantAll(t, []checked{
		{"no map", b(), api.ErrNoMap, 0, 14},
		{"the first alone", b(at(3, intType)), api.ErrNoMap, 0, 14},
		{"the second alone", b(at(18, intType)), api.ErrNoMap, 0, 16},
		{"both", b(at(3, intType), at(18, intType)), api.OK, 0, 0},
		{"the second says less", b(at(3, intType), at(18, topType)), api.OK, 0, 0},
		{"the first says less", b(at(3, topType), at(18, intType)), api.ErrType, 0, 3},
		{"the first is another type", b(at(3, nullType), at(18, intType)), api.ErrFlow, 0, 1},
		{"the first is higher", b(at(3, intType, topType), at(18, intType)), api.ErrFlow, 0, 1},
		{"the second is another type", b(at(3, intType), at(18, ref(0))), api.ErrFlow, 0, 14},
		{"the second is higher", b(at(3, intType), at(18, topType, topType)), api.ErrFlow, 0, 14},
		{"the way back has another type", bare(1, []int{24, 3, 0, 1, 3, 0, 11, 3, 22}, nil, at(3, intType)), api.ErrFlow, 0, 6},
		{"the way back is higher", bare(2, []int{24, 1, 11, 1, 22}, nil, at(1, topType, intType)), api.ErrFlow, 0, 2},
		{"the way back is lower", bare(2, []int{24, 4, 11, 1, 22}, nil, at(1, topType, intType)), api.ErrFlow, 0, 2},
		{"a place that is gone on to needs no map", bare(1, []int{24, 12, 3, 22}, nil), api.ErrNoMap, 0, 1},
		{"its map counts both ways", bare(1, []int{24, 12, 3, 22}, nil, at(3, topType, topType)), api.ErrFlow, 0, 1},
		{"Jump to the next", bare(1, []int{11, 2, 22}, nil), api.ErrNoMap, 0, 0},
		{"to itself, with a map", bare(1, []int{11, 0}, nil, at(0, topType)), api.OK, 0, 0},
		{"to itself, without", bare(1, []int{11, 0}, nil), api.ErrNoMap, 0, 0},
		{"the frame behind, not ahead", bare(1, []int{24, 12, 4, 22, 22}, nil, at(4, topType, intType)), api.ErrFlow, 0, 1},
	})
}

// Of a jump the frame behind it must fit, with each of the four.
func TestP11EachThatGoesToN(t *testing.T) {
	for op, takes := range map[int][]pair{11: nil, 12: {intType}, 13: {intType, intType}, 14: {nullType}} {
		code := []int{22, 24, 24, op, 6, 22, 22}
		ahead := stackMap{3, []pair{nullType}, slices.Concat([]pair{ref(2)}, takes)}
		wantAll(t, []checked{
			{"without a map", bare(3, code, nil, ahead), api.ErrNoMap, 0, 3},
			{"with one", bare(3, code, nil, ahead, at(6, ref(3), ref(1))), api.OK, 0, 0},
			{"with another local", bare(3, code, nil, ahead, at(6, intType, ref(1))), api.ErrFlow, 0, 3},
			{"with another stack", bare(3, code, nil, ahead, at(6, ref(3), ref(3))), api.ErrFlow, 0, 3},
			{"with less on the stack", bare(3, code, nil, ahead, at(6, ref(3))), api.ErrFlow, 0, 3},
			{"with more on the stack", bare(3, code, nil, ahead, at(6, ref(3), ref(1), topType)), api.ErrFlow, 0, 3},
		})
	}
}

func TestP11End(t *testing.T) {
	for _, r := range rows() {
		c := trial{instruction: r.instruction, result: r.result}.on(nil, r.takes, r.leaves)
		p := c.program()
		m := &p.methods[0]
		m.code = m.code[:under+len(r.instruction)]
		m.maps = m.maps[:2]
		switch r.instruction[0] {
		case api.OpJump, api.OpZero, api.OpLess, api.OpNil:
			// To place 0, whose map is of an empty stack.
			m.code[under+1] = 0
		}
		e, place := api.ErrEnd, under
		if !canGoOn(r.instruction[0]) {
			e, place = api.OK, 0
		}
		wantCheck(t, r.what+" as the last", p.file(), e, 0, place)
	}
	wantAll(t, []checked{
		{"Const 5", bare(1, []int{0, 5}, nil), api.ErrEnd, 0, 0},
		{"Load", bare(1, []int{24, 3, 0, 2, 0}, nil), api.ErrEnd, 0, 3},
		{"Store", bare(1, []int{24, 3, 0}, nil), api.ErrEnd, 0, 1},
		{"Pop", bare(1, []int{24, 4}, nil), api.ErrEnd, 0, 1},
		{"Dup", bare(2, []int{24, 5}, nil), api.ErrEnd, 0, 1},
		{"Swap", bare(2, []int{24, 24, 6}, nil), api.ErrEnd, 0, 2},
		{"New", bare(2, []int{15, 0}, nil), api.ErrEnd, 0, 0},
		{"Init", bare(2, []int{15, 0, 16, 0}, nil), api.ErrEnd, 0, 2},
	})
}

// Const 6, In, Div, Out, Return; at 6: Pop, Return.
func caught(handlers []handler, maps ...stackMap) string {
	return bare(2, []int{0, 6, 24, 10, 25, 22, 4, 22}, handlers, maps...)
}

func TestP11Handlers(t *testing.T) {
	h := func(l ...int) []handler { return []handler{{l[0], l[1], l[2], l[3]}} }
	wantAll(t, []checked{
		{"no map", caught(h(0, 5, 6, 2)), api.ErrNoMap, 0, 0},
		{"a map", caught(h(0, 5, 6, 2), at(6, topType, ref(2))), api.OK, 0, 0},
		{"a map of a class above", caught(h(0, 5, 6, 2), at(6, topType, ref(1))), api.OK, 0, 0},
		{"a map of Object", caught(h(0, 5, 6, 2), at(6, topType, ref(0))), api.OK, 0, 0},
		{"a map of Top", caught(h(0, 5, 6, 2), at(6, topType, topType)), api.OK, 0, 0},
		{"a map of another class", caught(h(0, 5, 6, 2), at(6, topType, ref(3))), api.ErrFlow, 0, 0},
		{"a map of Null", caught(h(0, 5, 6, 2), at(6, topType, nullType)), api.ErrFlow, 0, 0},
		{"a handler of Fault, a map of a class below", caught(h(0, 5, 6, 1), at(6, topType, ref(2))), api.ErrFlow, 0, 0},
		{"an empty stack", caught(h(0, 5, 6, 2), at(6, topType)), api.ErrFlow, 0, 0},
		{"two on the stack", caught(h(0, 5, 6, 2), at(6, topType, topType, ref(2))), api.ErrFlow, 0, 0},
		{"a local that it has not", caught(h(0, 5, 6, 2), at(6, intType, ref(2))), api.ErrFlow, 0, 0},
		{"from 2 on", caught(h(2, 5, 6, 2)), api.ErrNoMap, 0, 2},
		{"from 4 on", caught(h(4, 6, 6, 2)), api.ErrNoMap, 0, 4},
		{"from 5 on: Return as well", caught(h(5, 6, 6, 2)), api.ErrNoMap, 0, 5},
		{"from 6 on: what is not looked at", caught(h(6, 8, 6, 2)), api.OK, 0, 0},
		{"from 6 on, with a map: itself", caught(h(6, 8, 6, 2), at(6, topType, ref(2))), api.OK, 0, 0},
		{"from 6 on, with a map that does not suit", caught(h(6, 8, 6, 2), at(6, topType, ref(4))), api.ErrFlow, 0, 6},
		{"behind a handler of other places", caught([]handler{{6, 8, 6, 2}, {4, 5, 6, 3}, {0, 5, 7, 2}}), api.ErrNoMap, 0, 0},
		{"up to the code's end", caught(h(0, 8, 7, 2), at(7, topType, ref(2))), api.OK, 0, 0},
	})
}

// From and to: the handler is of the places at or above from and below to.
func TestP11HandlerRange(t *testing.T) {
	code := []int{24, 4, 24, 4, 24, 4, 22, 22}
	for from := 0; from < 7; from++ {
		for to := from + 1; to <= 7; to++ {
			file := bare(1, code, []handler{{from, to, 7, 1}})
			wantCheck(t, fmt.Sprintf("from %d to %d", from, to), file, api.ErrNoMap, 0, from)
			for first := 1; first < 7; first++ {
				// From first on the local is a number no longer: at from, if that is later, or at first, if the handler goes so far.
				maps := []stackMap{at(first, topType, repeated(first%2, intType)...), at(7, intType, ref(1))}
				m := method{class: 255, params: []pair{intType}, locals: 1, stack: 1, code: code, handlers: []handler{{from, to, 7, 1}}, maps: maps}
				e, place := api.ErrFlow, max(from, first)
				if place >= to {
					e, place = api.OK, 0
				}
				wantCheck(t, fmt.Sprintf("from %d to %d, wrong from %d on", from, to, first), alone(m), e, 0, place)
			}
		}
	}
}

// The locals are those ahead of the instruction, even of one that changes them.
func TestP11HandlerLocals(t *testing.T) {
	store := []int{24, 3, 0, 24, 22, 4, 22}
	wantAll(t, []checked{
		{"ahead of Store", bare(1, store, []handler{{1, 3, 5, 1}}, at(5, intType, ref(1))), api.ErrFlow, 0, 1},
		{"behind Store", bare(1, store, []handler{{3, 4, 5, 1}}, at(5, intType, ref(1))), api.OK, 0, 0},
		{"ahead of Store it is Top", bare(1, store, []handler{{1, 3, 5, 1}}, at(5, topType, ref(1))), api.OK, 0, 0},
		{"a Raw ahead of its Init", bare(1, []int{15, 1, 3, 0, 2, 0, 16, 1, 22, 4, 22}, []handler{{6, 8, 9, 1}}, at(9, raw(0), ref(1))), api.OK, 0, 0},
		{"no Ref ahead of its Init", bare(1, []int{15, 1, 3, 0, 2, 0, 16, 1, 22, 4, 22}, []handler{{6, 8, 9, 1}}, at(9, ref(1), ref(1))), api.ErrFlow, 0, 6},
		{"a Ref behind its Init", bare(1, []int{15, 1, 3, 0, 2, 0, 16, 1, 22, 4, 22}, []handler{{8, 9, 9, 1}}, at(9, ref(1), ref(1))), api.OK, 0, 0},
		{"an older Raw ahead of its New", bare(1, []int{22, 15, 1, 22, 4, 22}, []handler{{1, 3, 4, 1}}, at(1, raw(1)), at(4, raw(1), ref(1))), api.OK, 0, 0},
		{"not behind it", bare(1, []int{22, 15, 1, 22, 4, 22}, []handler{{3, 4, 4, 1}}, at(1, raw(1)), at(4, raw(1), ref(1))), api.ErrFlow, 0, 3},
	})
}

// Several things are wrong at one instruction: the step named first is told.
func TestP11Order(t *testing.T) {
	two := func(a, b int) []handler { return []handler{{0, 1, a, 2}, {0, 1, b, 3}} }
	code := []int{25, 22, 22, 22}
	suits, not := []pair{ref(1)}, []pair{ref(5)}
	wantAll(t, []checked{
		{"two handlers: no map, then flow", bare(1, code, two(2, 3), at(3, topType, not...)), api.ErrNoMap, 0, 0},
		{"two handlers: flow, then no map", bare(1, code, two(3, 2), at(3, topType, not...)), api.ErrFlow, 0, 0},
		{"two handlers: the second has no map", bare(1, code, two(3, 2), at(3, topType, suits...)), api.ErrNoMap, 0, 0},
		{"two handlers: the second does not fit", bare(1, code, two(3, 2), at(2, topType, not...), at(3, topType, suits...)), api.ErrFlow, 0, 0},
		{"handlers are right: the rule", bare(1, code, two(3, 2), at(2, topType, suits...), at(3, topType, suits...)), api.ErrType, 0, 0},
		{"the rule ahead of n", bare(1, []int{12, 2, 22}, nil), api.ErrType, 0, 0},
		{"the rule ahead of the end", bare(1, []int{25}, nil), api.ErrType, 0, 0},
		{"the rule ahead of the next map", bare(1, []int{25, 22}, nil, at(1, topType, intType)), api.ErrType, 0, 0},
		{"n without a map ahead of the end", bare(1, []int{24, 12, 0}, nil), api.ErrNoMap, 0, 1},
		{"n that does not fit ahead of the end", bare(2, []int{22, 12, 0}, nil, at(0, topType), at(1, topType, topType, intType)), api.ErrFlow, 0, 1},
		{"n without a map ahead of the next map", bare(1, []int{24, 12, 4, 22, 22}, nil, at(3, topType, topType)), api.ErrNoMap, 0, 1},
		{"n ahead of nothing: the next map", bare(1, []int{24, 12, 4, 22, 22}, nil, at(3, topType, topType), at(4, topType)), api.ErrFlow, 0, 1},
		{"the earlier instruction first", bare(1, []int{24, 24, 25, 4, 4}, nil), api.ErrType, 0, 1},
		{"places in their order, not ways", bare(1, []int{11, 3, 4, 25, 22}, nil, at(2, topType), at(3, topType)), api.ErrType, 0, 2},
	})
}

func TestP11Methods(t *testing.T) {
	good, bad := plainMethod(), method{class: 255, stack: 1, code: []int{24, 25, 24}}
	for which := 0; which < 6; which++ {
		l := repeated(6, good)
		l[which] = bad
		wantCheck(t, "one wrong method", program{nil, l}.file(), api.ErrEnd, which, 2)
		l[5].code = []int{25}
		if which < 5 {
			wantCheck(t, "of two the first", program{nil, l}.file(), api.ErrEnd, which, 2)
		}
		l[5].code = []int{99}
		wantCheck(t, "the errors of form come first", program{nil, l}.file(), api.ErrCode, 5, 0)
	}
	wantOK(t, "six right ones", program{nil, repeated(6, good)}.file())
}

// spoiled: the program with one thing in it changed.
func (d *dice) spoiled(p program) program {
	m := &p.methods[d.below(len(p.methods))]
	if _, _, ok := starts(m.code); !ok {
		return p
	}
	types := append(kinds()[:3], ref(d.below(7+len(p.classes))), ref(d.below(7+len(p.classes))), ref(1))
	some := types[d.below(len(types))]
	list := places(m.code)
	switch d.below(6) {
	case 0:
		m.result = some
	case 1:
		m.stack = max(0, min(8, m.stack-1+d.below(3)))
	case 2:
		at := list[d.below(len(list))]
		if op := d.below(26); takesN[op] == takesN[m.code[at]] {
			m.code[at] = op
		}
	case 3:
		at := d.below(len(m.code))
		m.code[at] = d.below(len(m.code))
	default:
		d.spoilMaps(m, some)
	}
	return p
}

func (d *dice) spoilMaps(m *method, some pair) {
	if len(m.maps) == 0 {
		return
	}
	i := d.below(len(m.maps))
	one := &m.maps[i]
	one.locals, one.stack = slices.Clone(one.locals), slices.Clone(one.stack)
	switch {
	case d.oneIn(4):
		m.maps = slices.Delete(m.maps, i, i+1)
	case d.oneIn(4) && len(one.stack) < m.stack:
		one.stack = append(one.stack, some)
	case d.oneIn(2) && len(one.stack) > 0:
		one.stack[d.below(len(one.stack))] = some
	case len(one.locals) > 0:
		one.locals[d.below(len(one.locals))] = some
	}
}

// Programs made at random, as they are and spoiled, held against the words.
func TestP11Random(t *testing.T) {
	d := &dice{1}
	seen := map[api.Errno]int{}
	for n := 0; n < 4000; n++ {
		p := d.program()
		seen[holdAgainstWords(t, p.file()).e]++
		for k := 0; k < 3; k++ {
			p = d.spoiled(p)
			seen[holdAgainstWords(t, p.file()).e]++
		}
	}
	for _, e := range []api.Errno{api.OK, api.ErrNoMap, api.ErrFlow, api.ErrType, api.ErrEnd} {
		if seen[e] < 200 {
			t.Errorf("error %d came only %d times: %v", e, seen[e], seen)
		}
	}
}
