package stackmap_test

import (
	"testing"

	"stackmap/api"
	"stackmap/stackmap"
)

// pair: a type as its two bytes.
type pair [2]int

var (
	topType  = pair{api.Top, 0}
	intType  = pair{api.Int, 0}
	nullType = pair{api.Null, 0}
)

func ref(class int) pair { return pair{api.Ref, class} }
func raw(place int) pair { return pair{api.Raw, place} }

type class struct {
	above  int
	fields []pair
}

type handler struct{ from, to, target, class int }

type stackMap struct {
	place         int
	locals, stack []pair
}

type method struct {
	class, name   int
	params        []pair
	result        pair
	locals, stack int
	code          []int
	handlers      []handler
	maps          []stackMap
}

type program struct {
	classes []class
	methods []method
}

func flat(list []pair) []int {
	var l []int
	for _, p := range list {
		l = append(l, p[0], p[1])
	}
	return l
}

func counted(list []pair) []int { return append([]int{len(list)}, flat(list)...) }

func (m method) numbers() []int {
	l := append([]int{m.class, m.name}, counted(m.params)...)
	l = append(l, m.result[0], m.result[1], m.locals, m.stack, len(m.code))
	l = append(l, m.code...)
	l = append(l, len(m.handlers))
	for _, h := range m.handlers {
		l = append(l, h.from, h.to, h.target, h.class)
	}
	l = append(l, len(m.maps))
	for _, s := range m.maps {
		l = append(l, s.place)
		l = append(l, flat(s.locals)...)
		l = append(l, counted(s.stack)...)
	}
	return l
}

func (p program) numbers() []int {
	l := []int{'S', 'M', len(p.classes)}
	for _, c := range p.classes {
		l = append(l, c.above)
		l = append(l, counted(c.fields)...)
	}
	l = append(l, len(p.methods))
	for _, m := range p.methods {
		l = append(l, m.numbers()...)
	}
	return l
}

func (p program) file() string { return text(p.numbers()...) }

// text: numbers as the bytes of a string.
func text(l ...int) string {
	b := make([]byte, len(l))
	for i, n := range l {
		b[i] = byte(n)
	}
	return string(b)
}

// plainMethod: a method without a class that returns at once; what is behind that is never come to.
func plainMethod(more ...int) method {
	return method{class: api.NoClass, code: append([]int{api.OpReturn}, more...)}
}

// ownMethod: a method of a class that returns at once.
func ownMethod(class, name int, result pair, params ...pair) method {
	return method{class: class, name: name, params: params, result: result, locals: 8, stack: 1, code: []int{api.OpReturn}}
}

// alone: a file of one method.
func alone(m method) string { return program{methods: []method{m}}.file() }

func ofForm(e api.Errno) bool { return e >= api.ErrLong && e <= api.ErrMap }

// wantError: Check answers that error of form with these two numbers, Prepare with the first of them, and Strip alone.
func wantError(t *testing.T, what, file string, e api.Errno, which, at int) {
	t.Helper()
	wantCheck(t, what, file, e, which, at)
	if s, gotE := stackmap.Strip(file); s != "" || gotE != e {
		t.Errorf("%s: Strip = %q, %d, want error %d", what, s, gotE, e)
	}
	if s, gotE, gotWhich := stackmap.Prepare(file); s != "" || gotE != e || gotWhich != which {
		t.Errorf("%s: Prepare = %q, %d, %d, want error %d, %d", what, s, gotE, gotWhich, e, which)
	}
}

// wantForm: no error of form (the types of the code may still be wrong).
func wantForm(t *testing.T, what, file string) {
	t.Helper()
	e, which, at := stackmap.Check(file)
	if ofForm(e) {
		t.Errorf("%s: Check = %d, %d, %d, want no error of form", what, e, which, at)
	}
	if s, e := stackmap.Strip(file); s == "" || e != api.OK {
		t.Errorf("%s: Strip = %q, %d, want a file", what, s, e)
	}
	if s, e, which := stackmap.Prepare(file); ofForm(e) {
		t.Errorf("%s: Prepare = %q, %d, %d, want no error of form", what, s, e, which)
	}
}

// wantCheck: Check answers just that.
func wantCheck(t *testing.T, what, file string, e api.Errno, which, at int) {
	t.Helper()
	gotE, gotWhich, gotAt := stackmap.Check(file)
	if gotE != e || gotWhich != which || gotAt != at {
		t.Errorf("%s: Check = %d, %d, %d, want %d, %d, %d", what, gotE, gotWhich, gotAt, e, which, at)
	}
}

// wantOK: nothing at all against the file.
func wantOK(t *testing.T, what, file string) {
	t.Helper()
	wantForm(t, what, file)
	wantCheck(t, what, file, api.OK, 0, 0)
}

// wantIf: no error of form if good, else that error.
func wantIf(t *testing.T, good bool, what, file string, e api.Errno, which, at int) {
	t.Helper()
	if good {
		wantForm(t, what, file)
		return
	}
	wantError(t, what, file, e, which, at)
}

func repeated[T any](n int, one T) []T {
	l := make([]T, n)
	for i := range l {
		l[i] = one
	}
	return l
}

// rich: a file with something of everything that a file can hold.
func rich() program {
	return program{
		classes: []class{{0, []pair{intType, ref(8)}}, {7, []pair{ref(0)}}, {1, nil}, {9, []pair{intType}}},
		methods: []method{
			{class: api.NoClass, params: []pair{intType, ref(7)}, result: intType, locals: 3, stack: 3,
				code:     []int{api.OpLoad, 0, api.OpZero, 5, api.OpIn, api.OpNew, 10, api.OpDup, api.OpConst, 15, api.OpInit, 10, api.OpThrow, api.OpLoad, 0, api.OpReturn},
				handlers: []handler{{0, 4, 13, 1}, {5, 16, 13, 9}},
				maps:     []stackMap{{5, []pair{intType, ref(7), topType}, nil}, {13, []pair{intType, nullType, raw(5)}, []pair{ref(1)}}}},
			{class: 8, name: 3, params: []pair{intType}, result: ref(7), locals: 2, stack: 2,
				code: []int{api.OpLoad, 0, api.OpLoad, 1, api.OpSend, 2, api.OpReturn}},
			{class: 7, name: 3, params: []pair{intType}, result: ref(7), locals: 3, stack: 4,
				code:     []int{api.OpLoad, 0, api.OpGet, 1, api.OpCast, 8, api.OpDup, api.OpNull, api.OpPut, 2, api.OpNil, 14, api.OpCall, 3, api.OpNull, api.OpReturn},
				handlers: []handler{{0, 16, 14, 10}},
				maps:     []stackMap{{14, []pair{ref(7), intType, topType}, nil}}},
			plainMethod(),
		},
	}
}
