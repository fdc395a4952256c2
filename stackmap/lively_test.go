package stackmap_test

import (
	"slices"

	"stackmap/api"
)

// Programs that are made at random and that do something when they run: their code is written statement by statement, with an empty stack between two of them, and each local keeps its type from the method's first instructions on.

// author: a method that is being written.
type author struct {
	d     *dice
	p     program
	which int
	code  []int
	types []pair // of the locals
	hands []handler
}

// lively: a program whose method 0 has no class and no parameters. It has no maps yet.
func (d *dice) lively() program {
	var p program
	p.classes = make([]class, 1+d.below(6))
	for i := range p.classes {
		above := d.below(7 + i)
		if i > 0 && d.oneIn(2) {
			above = 7 + d.below(i)
		}
		p.classes[i] = class{above: above}
	}
	for i := range p.classes {
		p.classes[i].fields = d.plainTypes(p, 2)
	}
	p.methods = []method{{class: api.NoClass, locals: d.below(5), result: topType}}
	if d.oneIn(2) {
		p.methods[0].result = d.plainType(p)
	}
	for n := d.below(6); n > 0; n-- {
		m := d.head(p)
		// Mostly one of a class, and then better one that stands in for another.
		wanted := d.below(3)
		for try := 0; try < 20 && (wanted > 0 && m.class == api.NoClass || wanted > 1 && m.name == len(p.methods)); try++ {
			m = d.head(p)
		}
		m.locals = min(8, m.locals+2)
		p.methods = append(p.methods, m)
	}
	for i := range p.methods {
		m := &p.methods[i]
		m.stack = 8
		m.code, m.handlers = d.written(p, i)
	}
	return p
}

// written: code for a method that is not longer than code may be.
func (d *dice) written(p program, which int) ([]int, []handler) {
	for size := 6; ; size = max(1, size-1) {
		m := p.methods[which]
		w := author{d: d, p: p, which: which, types: m.startFrame().locals}
		for n, t := range w.types {
			if t == topType {
				some := d.plainType(p)
				w.value(some, 0, 1)
				w.write(api.OpStore, n)
				w.types[n] = some
			}
		}
		if d.oneIn(2) {
			w.guarded(size, 3)
		}
		w.block(size, 2)
		w.giveBack()
		if len(w.code) <= 120 {
			return w.code, w.hands
		}
	}
}

func (w *author) write(l ...int) { w.code = append(w.code, l...) }

func (w *author) here() int { return len(w.code) }

func (w *author) giveBack() {
	if m := w.p.methods[w.which]; m.result != topType {
		w.value(m.result, 0, 2)
	}
	w.write(api.OpReturn)
}

// from: one of a list, if there is one.
func from[T any](d *dice, l []T) (T, bool) {
	if len(l) == 0 {
		var none T
		return none, false
	}
	return l[d.below(len(l))], true
}

// value writes what leaves a value that fits t, upon a stack of some height; the deeper, the more goes before.
func (w *author) value(t pair, height, deep int) {
	if deep > 0 && height < 5 {
		if w.called(func(result pair) bool { return w.p.fits(result, t) }, height, deep) || w.got(t, height, deep) {
			return
		}
	}
	if t == intType {
		w.number(height, deep)
		return
	}
	w.reference(t, height, deep)
}

// local: one whose type fits t.
func (w *author) local(t pair) (int, bool) {
	var l []int
	for n := range w.types {
		if w.p.fits(w.types[n], t) {
			l = append(l, n)
		}
	}
	return from(w.d, l)
}

func (w *author) number(height, deep int) {
	if deep > 0 && height < 6 && w.d.oneIn(2) {
		w.value(intType, height, deep-1)
		w.value(intType, height+1, deep-1)
		if w.d.oneIn(4) {
			w.write(api.OpSwap)
		}
		w.write(api.OpAdd + w.d.below(4))
		return
	}
	n, there := w.local(intType)
	switch {
	case there && !w.d.oneIn(4):
		w.write(api.OpLoad, n)
	case w.d.oneIn(2):
		w.write(api.OpIn)
	default:
		w.write(api.OpConst, []int{0, 1, 2, 3, 100, 127, 128, 254, 255}[w.d.below(9)])
	}
}

func (w *author) reference(t pair, height, deep int) {
	var classes []int
	for c := t[1]; c < 7+len(w.p.classes); c++ {
		if w.p.isA(c, t[1]) && height+2+len(w.p.allFields(c)) <= 8 {
			classes = append(classes, c)
		}
	}
	class, there := from(w.d, classes)
	n, kept := w.local(t)
	if there && (deep > 0 || deep == 0 && !kept) && !w.d.oneIn(4) {
		w.write(api.OpNew, class, api.OpDup)
		for i, field := range w.p.allFields(class) {
			w.value(field, height+2+i, min(0, deep-1))
		}
		w.write(api.OpInit, class)
		return
	}
	if deep > 0 && w.d.oneIn(4) {
		w.value(ref(w.p.some(w.d, t[1])), height, deep-1)
		w.write(api.OpCast, t[1])
		return
	}
	if kept && !w.d.oneIn(12) {
		w.write(api.OpLoad, n)
		return
	}
	w.write(api.OpNull)
}

// some: a class that may turn out to be the other.
func (p program) some(d *dice, class int) int {
	l := []int{0}
	for c := range p.over(class) {
		l = append(l, c)
	}
	slices.Sort(l)
	return l[d.below(len(l))]
}

// got: a Get of some field of that type, or not.
func (w *author) got(t pair, height, deep int) bool {
	n, there := w.field(func(field pair) bool { return w.p.fits(field, t) })
	if !there || !w.d.oneIn(3) {
		return false
	}
	class, _ := w.p.fieldByNumber(n)
	w.value(ref(class), height, deep-1)
	w.write(api.OpGet, n)
	return true
}

func (w *author) field(suits func(pair) bool) (int, bool) {
	var l []int
	n := 0
	for _, c := range w.p.classes {
		for _, field := range c.fields {
			if suits(field) {
				l = append(l, n)
			}
			n++
		}
	}
	return from(w.d, l)
}

// called: a Call or Send of some method that gives back what suits, or not. Mostly of a later one, so that calls come to an end.
func (w *author) called(suits func(pair) bool, height, deep int) bool {
	if !w.d.oneIn(3) {
		return false
	}
	var l []int
	for n, m := range w.p.methods {
		if suits(m.result) && height+len(m.params) < 8 && (n > w.which || w.d.oneIn(8)) {
			l = append(l, n)
		}
	}
	n, there := from(w.d, l)
	if !there {
		return false
	}
	m, op := w.p.methods[n], api.OpCall
	if m.class != api.NoClass {
		w.value(ref(m.class), height, deep-1)
		op = api.OpSend
		height++
	}
	for i, t := range m.params {
		w.value(t, height+i, min(deep-1, 1-i/2))
	}
	w.write(op, n)
	return true
}

func (w *author) block(statements, deep int) {
	for n := 1 + w.d.below(statements); n > 0; n-- {
		w.statement(statements, deep)
	}
}

func (w *author) statement(size, deep int) {
	switch kind := w.d.below(14); {
	case kind < 3:
		w.value(intType, 0, 2)
		w.write(api.OpOut)
	case kind < 5 && len(w.types) > 0:
		n := w.d.below(len(w.types))
		w.value(w.types[n], 0, 2)
		w.write(api.OpStore, n)
	case kind == 5:
		w.put()
	case kind == 6 || kind == 7:
		w.call()
	case kind > 11 && deep > 0:
		w.guarded(size, deep)
	case kind == 8 && deep > 0:
		w.loop(size, deep)
	case kind == 9 && deep > 0:
		past := w.unless()
		w.block(max(1, size/2), deep-1)
		w.code[past] = w.here()
	case kind == 10 && w.d.oneIn(2):
		past := w.unless()
		w.value(ref(1), 0, 2)
		w.write(api.OpThrow)
		w.code[past] = w.here()
	case kind == 11 && w.d.oneIn(4):
		past := w.unless()
		w.giveBack()
		w.code[past] = w.here()
	}
}

func (w *author) put() {
	n, there := w.field(func(pair) bool { return true })
	if !there {
		return
	}
	class, t := w.p.fieldByNumber(n)
	w.value(ref(class), 0, 1)
	w.value(t, 1, 1)
	w.write(api.OpPut, n)
}

// call: what is given back is not wanted.
func (w *author) call() {
	if !w.called(func(pair) bool { return true }, 0, 2) {
		return
	}
	n := w.code[w.here()-1]
	if w.p.methods[n].result != topType {
		w.write(api.OpPop)
	}
}

// unless: an instruction that goes past what follows, or not; the place of its n.
func (w *author) unless() int {
	switch w.d.below(3) {
	case 0:
		w.value(intType, 0, 1)
		w.write(api.OpZero, 0)
	case 1:
		w.value(intType, 0, 1)
		w.value(intType, 1, 1)
		w.write(api.OpLess, 0)
	default:
		w.value(ref(0), 0, 1)
		w.write(api.OpNil, 0)
	}
	return w.here() - 1
}

func (w *author) loop(size, deep int) {
	head := w.here()
	past := w.unless()
	w.block(max(1, size/2), deep-1)
	w.write(api.OpJump, head)
	w.code[past] = w.here()
}

// guarded: a block, and a handler for what is thrown in it.
func (w *author) guarded(size, deep int) {
	start := w.here()
	w.block(max(1, size/2), deep-1)
	to := w.here()
	if to == start || len(w.hands) == 4 {
		return
	}
	w.write(api.OpJump, 0)
	past := w.here() - 1
	class := 1 + w.d.below(6+len(w.p.classes))
	if !w.p.isA(class, 1) || w.d.oneIn(3) {
		class = 1
	}
	w.hands = append(w.hands, handler{start, to, w.here(), class})
	if w.d.oneIn(4) {
		slices.Reverse(w.hands)
	}
	w.caught(class)
	w.block(2, 0)
	w.code[past] = w.here()
}

// caught: what is done with an object that a handler took.
func (w *author) caught(class int) {
	var keeps []int
	for n, t := range w.types {
		if w.p.fits(ref(class), t) {
			keeps = append(keeps, n)
		}
	}
	n, there := from(w.d, keeps)
	switch {
	case there && w.d.oneIn(2):
		w.write(api.OpStore, n)
	case w.d.oneIn(6):
		// Thrown again; what follows is gone past to.
		w.write(api.OpIn, api.OpZero, w.here()+4, api.OpThrow, api.OpPop)
	default:
		w.write(api.OpPop)
	}
}
