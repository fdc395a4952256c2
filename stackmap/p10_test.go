package stackmap_test

import (
	"fmt"
	"slices"
	"testing"

	"stackmap/api"
)

// The file of these tests has the classes 7 (below 0; fields 0: Int, 1: Ref 8), 8 (below 7; field 2: Ref 0) and 9 (below 1). Method 0 has New 7 at 2, New 8 at 4, New 9 at 6; at 8 is the instruction that is looked at. Behind that stand two Jumps to themselves, with maps.
const under = 8

// kinds: all the types that a map of that method may name.
func kinds() []pair {
	l := []pair{topType, intType, nullType, raw(2), raw(4), raw(6)}
	for class := 0; class <= 9; class++ {
		l = append(l, ref(class))
	}
	return l
}

// trial: an instruction, the frame ahead of it, the one that the maps behind it want, how high the stack may be, and what the method gives back.
type trial struct {
	instruction []int
	ahead, want frame
	highest     int
	result      pair
}

func (c trial) program() program {
	next := under + len(c.instruction)
	m := method{class: api.NoClass, result: c.result, locals: len(c.ahead.locals), stack: c.highest}
	m.code = append([]int{api.OpJump, 0, api.OpNew, 7, api.OpNew, 8, api.OpNew, 9}, c.instruction...)
	m.code = append(m.code, api.OpJump, next, api.OpJump, next+2)
	m.maps = []stackMap{
		{0, repeated(m.locals, topType), nil},
		{under, c.ahead.locals, c.ahead.stack},
		{next, c.want.locals, c.want.stack},
		{next + 2, c.want.locals, c.want.stack},
	}
	return program{
		[]class{{0, []pair{intType, ref(8)}}, {7, []pair{ref(0)}}, {1, nil}},
		[]method{
			m,
			{class: api.NoClass, params: []pair{intType, ref(7)}, result: intType, locals: 2, stack: 1, code: []int{api.OpIn, api.OpReturn}},
			plainMethod(),
			{class: 7, name: 1, params: []pair{ref(9)}, result: ref(8), locals: 2, stack: 1, code: []int{api.OpNull, api.OpReturn}},
			{class: 8, name: 2, locals: 1, code: []int{api.OpReturn}},
		},
	}
}

// holds: the instruction's rule holds, and the frame behind it fits what is wanted.
func (c trial) holds(t *testing.T) {
	t.Helper()
	wantCheck(t, fmt.Sprintf("%+v", c), c.program().file(), api.OK, 0, 0)
}

// breaks: the instruction's rule does not hold.
func (c trial) breaks(t *testing.T) {
	t.Helper()
	wantCheck(t, fmt.Sprintf("%+v", c), c.program().file(), api.ErrType, 0, under)
}

// gives: the frame behind the instruction is the one that is wanted: each other one is fitted only if that one fits it.
func (c trial) gives(t *testing.T) {
	t.Helper()
	c.holds(t)
	p := c.program()
	for _, part := range []func(f *frame) []pair{func(f *frame) []pair { return f.locals }, func(f *frame) []pair { return f.stack }} {
		for i, is := range part(&c.want) {
			for _, other := range kinds() {
				changed := c
				changed.want = c.want.copy()
				part(&changed.want)[i] = other
				if p.fits(is, other) {
					changed.holds(t)
				} else {
					wantCheck(t, fmt.Sprintf("%+v", changed), changed.program().file(), api.ErrFlow, 0, under)
				}
			}
		}
	}
	higher := c
	higher.highest++
	higher.want = c.want.copy()
	higher.want.stack = append(higher.want.stack, topType)
	if higher.highest <= 8 {
		wantCheck(t, fmt.Sprintf("%+v", higher), higher.program().file(), api.ErrFlow, 0, under)
	}
}

// on: the trial with that stack ahead and that one wanted, both upon what lies lower.
func (c trial) on(lower, takes, leaves []pair) trial {
	c.ahead.stack = slices.Concat(lower, takes)
	c.want.stack = slices.Concat(lower, leaves)
	c.highest = max(len(c.ahead.stack), len(c.want.stack))
	return c
}

// row: an instruction, in a method that gives back result.
type row struct {
	what          string
	instruction   []int
	takes, leaves []pair
	result        pair
}

// rows: P10's table, as far as what is taken and left does not hang on the frame.
func rows() []row {
	i := intType
	n := under + 4
	return []row{
		{"Const", []int{0, 200}, nil, []pair{i}, topType},
		{"Null", []int{1}, nil, []pair{nullType}, topType},
		{"Add", []int{7}, []pair{i, i}, []pair{i}, topType},
		{"Sub", []int{8}, []pair{i, i}, []pair{i}, topType},
		{"Mul", []int{9}, []pair{i, i}, []pair{i}, topType},
		{"Div", []int{10}, []pair{i, i}, []pair{i}, topType},
		{"Jump", []int{11, n}, nil, nil, topType},
		{"Zero", []int{12, n}, []pair{i}, nil, topType},
		{"Less", []int{13, n}, []pair{i, i}, nil, topType},
		{"Nil", []int{14, n}, []pair{ref(0)}, nil, topType},
		{"Get 0", []int{17, 0}, []pair{ref(7)}, []pair{i}, topType},
		{"Get 1", []int{17, 1}, []pair{ref(7)}, []pair{ref(8)}, topType},
		{"Get 2", []int{17, 2}, []pair{ref(8)}, []pair{ref(0)}, topType},
		{"Put 0", []int{18, 0}, []pair{ref(7), i}, nil, topType},
		{"Put 1", []int{18, 1}, []pair{ref(7), ref(8)}, nil, topType},
		{"Put 2", []int{18, 2}, []pair{ref(8), ref(0)}, nil, topType},
		{"Cast 0", []int{19, 0}, []pair{ref(0)}, []pair{ref(0)}, topType},
		{"Cast 8", []int{19, 8}, []pair{ref(0)}, []pair{ref(8)}, topType},
		{"Call 1", []int{20, 1}, []pair{i, ref(7)}, []pair{i}, topType},
		{"Call 2", []int{20, 2}, nil, nil, topType},
		{"Send 3", []int{21, 3}, []pair{ref(7), ref(9)}, []pair{ref(8)}, topType},
		{"Send 4", []int{21, 4}, []pair{ref(8)}, nil, topType},
		{"In", []int{24}, nil, []pair{i}, topType},
		{"Out", []int{25}, []pair{i}, nil, topType},
		{"Return of nothing", []int{22}, nil, nil, topType},
		{"Return of Int", []int{22}, []pair{i}, nil, i},
		{"Return of Ref 7", []int{22}, []pair{ref(7)}, nil, ref(7)},
		{"Throw", []int{23}, []pair{ref(1)}, nil, topType},
	}
}

func TestP10Rows(t *testing.T) {
	lowers := [][]pair{nil, {raw(4)}, {topType, ref(9), intType}}
	for _, r := range rows() {
		for _, lower := range lowers {
			c := trial{instruction: r.instruction, result: r.result, ahead: frame{locals: []pair{ref(8), topType}}, want: frame{locals: []pair{ref(8), topType}}}.on(lower, r.takes, r.leaves)
			c.holds(t)
			if canGoOn(r.instruction[0]) || r.instruction[0] == api.OpJump {
				c.gives(t)
			}
			if len(c.want.stack) > len(c.ahead.stack) {
				c.highest--
				c.want.stack = nil
				c.breaks(t)
			}
		}
	}
}

// Each type in the place of each one that is taken: it will do if it fits.
func TestP10EveryTypeTaken(t *testing.T) {
	for _, r := range rows() {
		for i, wanted := range r.takes {
			for _, other := range kinds() {
				takes := slices.Clone(r.takes)
				takes[i] = other
				c := trial{instruction: r.instruction, result: r.result}.on([]pair{intType}, takes, r.leaves)
				if c.program().fits(other, wanted) {
					c.holds(t)
				} else {
					c.breaks(t)
				}
			}
		}
		for less := range r.takes {
			c := trial{instruction: r.instruction, result: r.result, highest: 3}
			c.ahead.stack = r.takes[len(r.takes)-less:]
			c.breaks(t)
		}
	}
}

// What is taken need not be more than fit: Null where a reference is wanted, and what is left is as the table says all the same.
func TestP10LeftWhateverCame(t *testing.T) {
	trial{instruction: []int{19, 7}}.on(nil, []pair{nullType}, []pair{ref(7)}).gives(t)
	trial{instruction: []int{19, 0}}.on(nil, []pair{ref(8)}, []pair{ref(0)}).gives(t)
	trial{instruction: []int{17, 1}}.on(nil, []pair{nullType}, []pair{ref(8)}).gives(t)
	trial{instruction: []int{21, 3}}.on(nil, []pair{ref(8), nullType}, []pair{ref(8)}).gives(t)
}

// The method that is called may stand anywhere: ahead of this one, behind it, or be this one.
func TestP10CallAnywhere(t *testing.T) {
	takesOne := method{class: 255, params: []pair{intType}, result: ref(7), locals: 1, stack: 1, code: []int{api.OpNull, api.OpReturn}}
	sent := method{class: 7, params: []pair{intType}, result: intType, locals: 2, stack: 1, code: []int{api.OpIn, api.OpReturn}}
	for n := 0; n < 6; n++ {
		for _, c := range []struct {
			op            int
			callee        method
			good, instead []int
			at            int
		}{
			{api.OpCall, takesOne, []int{24, 20, n, 17, 0, 25, 22}, []int{1, 20, n, 22}, 1},
			{api.OpSend, sent, []int{1, 24, 21, n, 25, 22}, []int{24, 24, 21, n, 22}, 2},
		} {
			l := repeated(6, plainMethod())
			l[n] = c.callee
			me := (n + 3) % 6
			p := program{[]class{{0, []pair{intType}}}, l}
			l[me] = method{class: 255, stack: 2, code: c.good}
			wantCheck(t, fmt.Sprintf("instruction %d of method %d", c.op, n), p.file(), api.OK, 0, 0)
			l[me].code = c.instead
			wantCheck(t, fmt.Sprintf("instruction %d of method %d, not so", c.op, n), p.file(), api.ErrType, me, c.at)
		}
	}
	wantCheck(t, "a method that calls itself", alone(method{class: 255, params: []pair{intType}, result: intType, locals: 1, stack: 1, code: []int{2, 0, 20, 0, 22}}), api.OK, 0, 0)
}

func TestP10LoadAndStore(t *testing.T) {
	for _, a := range kinds() {
		two := frame{locals: []pair{ref(6), a, intType}}
		c := trial{instruction: []int{2, 1}, ahead: two, want: two}.on([]pair{intType}, nil, []pair{a})
		if a == topType {
			c.breaks(t)
		} else {
			c.gives(t)
			c.highest = 1
			c.want.stack = nil
			c.breaks(t)
		}
		one := frame{locals: []pair{ref(6), nullType, intType}}
		trial{instruction: []int{3, 1}, ahead: one, want: two}.on([]pair{intType}, []pair{a}, nil).gives(t)
	}
	one := frame{locals: []pair{intType}}
	trial{instruction: []int{3, 0}, ahead: one, want: one, highest: 8}.breaks(t)
	trial{instruction: []int{2, 0}, ahead: one, want: one, highest: 0}.breaks(t)
}

func TestP10MovesOnTheStack(t *testing.T) {
	for _, a := range kinds() {
		trial{instruction: []int{4}}.on([]pair{intType}, []pair{a}, nil).gives(t)
		dup := trial{instruction: []int{5}}.on([]pair{intType}, []pair{a}, []pair{a, a})
		dup.gives(t)
		dup.highest, dup.want.stack = 2, nil
		dup.breaks(t)
		for _, b := range kinds() {
			trial{instruction: []int{6}}.on([]pair{intType}, []pair{a, b}, []pair{b, a}).gives(t)
		}
		swap := trial{instruction: []int{6}}.on(nil, []pair{a}, nil)
		swap.breaks(t)
	}
	for op := 4; op <= 6; op++ {
		trial{instruction: []int{op}, highest: 8}.breaks(t)
	}
}

func TestP10New(t *testing.T) {
	for class := 0; class <= 9; class++ {
		// The instruction itself is a New: its Raws, and no others, are forgotten.
		ahead := frame{locals: []pair{raw(under), raw(2), ref(class)}}
		want := frame{locals: []pair{topType, raw(2), ref(class)}}
		c := trial{instruction: []int{15, class}, ahead: ahead, want: want, highest: 5}
		c.ahead.stack = []pair{raw(6), raw(under), intType, raw(under)}
		c.want.stack = []pair{raw(6), topType, intType, topType, raw(under)}
		c.gives(t)
		c.highest, c.want.stack = 4, nil
		c.breaks(t)
	}
}

func TestP10Init(t *testing.T) {
	for _, o := range []struct {
		class, place int
		fields       []pair
	}{{7, 2, []pair{intType, ref(8)}}, {8, 4, []pair{intType, ref(8), ref(0)}}, {9, 6, nil}} {
		c := trial{instruction: []int{16, o.class}}
		c.ahead.locals = []pair{raw(2), raw(4), raw(6), topType, nullType}
		c.want.locals = slices.Clone(c.ahead.locals)
		c.want.locals[o.place/2-1] = ref(o.class)
		lower := []pair{raw(o.place), intType, raw(2), raw(4)}
		upon := slices.Concat([]pair{raw(o.place)}, o.fields)
		c = c.on(lower, upon, nil)
		c.want.stack = slices.Clone(lower)
		for i := range lower {
			if lower[i] == raw(o.place) {
				c.want.stack[i] = ref(o.class)
			}
		}
		c.gives(t)
		for i, wanted := range upon {
			for _, other := range kinds() {
				changed := c
				changed.ahead.stack = slices.Clone(c.ahead.stack)
				changed.ahead.stack[len(lower)+i] = other
				switch {
				case i > 0 && c.program().fits(other, wanted):
					changed.holds(t)
				case other != wanted:
					changed.breaks(t)
				}
			}
		}
		for height := range upon {
			less := c
			less.ahead.stack = slices.Clone(upon[len(upon)-height:])
			less.breaks(t)
		}
	}
}

// A Raw is of one New, and Init is of the class of that New: not of a class above or below it, nor of another New of the same class.
func TestP10InitOfAnother(t *testing.T) {
	trial{instruction: []int{16, 1}}.on(nil, []pair{raw(6)}, nil).breaks(t)
	trial{instruction: []int{16, 0}}.on(nil, []pair{raw(2)}, nil).breaks(t)
	trial{instruction: []int{16, 7}}.on(nil, []pair{raw(4), intType, ref(8)}, nil).breaks(t)
	trial{instruction: []int{16, 8}}.on(nil, []pair{raw(2), intType, ref(8), ref(0)}, nil).breaks(t)
	for _, r := range []struct{ local, behind pair }{{raw(1), ref(6)}, {raw(3), raw(3)}} {
		m := method{class: api.NoClass, locals: 1, stack: 1, code: []int{api.OpReturn, api.OpNew, 6, api.OpNew, 6, api.OpInit, 6, api.OpReturn}}
		m.maps = []stackMap{{5, []pair{r.local}, []pair{raw(1)}}, {7, []pair{r.behind}, nil}}
		wantCheck(t, fmt.Sprint("two News of one class, ", r), alone(m), api.OK, 0, 0)
	}
}

func TestP10StartFrame(t *testing.T) {
	classes := []class{{0, nil}, {7, nil}}
	for _, c := range []struct {
		m    method
		want []pair
	}{
		{method{class: 255}, nil},
		{method{class: 255, locals: 2}, []pair{topType, topType}},
		{method{class: 255, locals: 4, params: []pair{intType, ref(8), ref(3)}}, []pair{intType, ref(8), ref(3), topType}},
		{method{class: 255, locals: 4, params: []pair{intType, intType, ref(0), ref(7)}}, []pair{intType, intType, ref(0), ref(7)}},
		{method{class: 7, locals: 1}, []pair{ref(7)}},
		{method{class: 8, locals: 8, params: []pair{ref(7), intType}}, []pair{ref(8), ref(7), intType, topType, topType, topType, topType, topType}},
	} {
		c.m.code, c.m.stack = []int{api.OpReturn}, 1
		p := program{classes, []method{c.m}}
		with := func(locals, stack []pair) string {
			p.methods[0].maps = []stackMap{{0, locals, stack}}
			return p.file()
		}
		wantCheck(t, fmt.Sprint("starting with ", c.want), with(c.want, nil), api.OK, 0, 0)
		wantCheck(t, "starting with something on the stack", with(c.want, []pair{topType}), api.ErrFlow, 0, 0)
		for i, is := range c.want {
			for _, other := range []pair{topType, intType, nullType, ref(0), ref(3), ref(7), ref(8)} {
				locals := slices.Clone(c.want)
				locals[i] = other
				e := api.ErrFlow
				if p.fits(is, other) {
					e = api.OK
				}
				wantCheck(t, fmt.Sprintf("starting with %v, the map has %v", c.want, locals), with(locals, nil), e, 0, 0)
			}
		}
	}
}
