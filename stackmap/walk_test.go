package stackmap_test

import (
	"slices"

	"stackmap/api"
)

// Programs that are made at random, but mostly right: code is written instruction by instruction, with the frame ahead of each known by the words' rules.

// dice: numbers from a fixed rule, so that each run is the same.
type dice struct{ state uint64 }

func (d *dice) below(n int) int {
	d.state = d.state*6364136223846793005 + 1442695040888963407
	return int(d.state>>33) % n
}

func (d *dice) oneIn(n int) bool { return d.below(n) == 0 }

func (d *dice) plainType(p program) pair {
	if d.oneIn(2) {
		return intType
	}
	return ref(d.below(7 + len(p.classes)))
}

func (d *dice) plainTypes(p program, most int) []pair {
	var l []pair
	for n := d.below(most + 1); n > 0; n-- {
		l = append(l, d.plainType(p))
	}
	return l
}

func (d *dice) program() program {
	var p program
	p.classes = make([]class, d.below(5))
	for i := range p.classes {
		above := d.below(7 + i)
		if i > 0 && d.oneIn(2) {
			above = 7 + d.below(i)
		}
		p.classes[i] = class{above, d.plainTypes(p, 2)}
	}
	for n := 1 + d.below(4); n > 0; n-- {
		p.methods = append(p.methods, d.head(p))
	}
	for i := range p.methods {
		d.write(p, &p.methods[i])
	}
	return p
}

// head: a method's head. It stands in for an earlier method now and then; else its name is its own.
func (d *dice) head(p program) method {
	m := method{class: api.NoClass, params: d.plainTypes(p, 3), stack: d.below(9)}
	if d.oneIn(3) {
		m.result = d.plainType(p)
	}
	if d.oneIn(2) {
		m.params = nil
	}
	if len(p.classes) > 0 && d.oneIn(2) {
		m.class, m.name = 7+d.below(len(p.classes)), len(p.methods)
		for _, o := range p.methods {
			if p.over(m.class)[o.class] {
				m.name, m.params, m.result = o.name, o.params, o.result
			}
		}
	}
	for _, o := range p.methods {
		if o.class == m.class && o.name == m.name {
			m.class, m.name = api.NoClass, 0
		}
	}
	m.locals = min(8, len(m.params)+1+d.below(4))
	return m
}

// walk: a method whose code is being written.
type walk struct {
	d      *dice
	p      program
	m      *method
	now    frame
	ahead  map[int]frame // by the place of each instruction
	maps   map[int]bool  // the places that are to have a map
	jumps  map[int]frame // by the place of each one that goes to n: the frame behind it
	caught []int         // the places that handlers may go to
}

func (d *dice) write(p program, m *method) {
	w := walk{d, p, m, m.startFrame(), map[int]frame{}, map[int]bool{}, map[int]frame{}, nil}
	for length := 4 + d.below(70); len(m.code) < length; {
		if d.oneIn(7) {
			w.now = w.weaker(w.now)
			w.maps[len(m.code)] = true
		}
		switch d.below(6) {
		case 0:
			w.object()
		case 1:
			w.call()
		default:
			w.step(w.any())
		}
	}
	w.end()
	w.aim()
	w.guard()
	for _, at := range places(m.code) {
		if w.maps[at] {
			m.maps = append(m.maps, stackMap{at, w.ahead[at].locals, w.ahead[at].stack})
		}
	}
}

// step writes an instruction if its rule holds (and, seldom, if it does not).
func (w *walk) step(op, n int) bool {
	place := len(w.m.code)
	w.m.code = append(w.m.code, op)
	if takesN[op] {
		w.m.code = append(w.m.code, n)
	}
	behind, holds := w.p.ruled(*w.m, place, w.now)
	if !holds && !w.d.oneIn(400) {
		w.m.code = w.m.code[:place]
		return false
	}
	w.ahead[place] = w.now
	if op >= 11 && op <= 14 {
		w.jumps[place] = behind
	}
	if holds {
		w.now = behind
	}
	if !canGoOn(op) {
		w.island()
	}
	return true
}

// any: some instruction, its n one that may be (the n of one that goes to n is found later).
func (w *walk) any() (int, int) {
	op := w.d.below(26)
	fields := 0
	for _, c := range w.p.classes {
		fields += len(c.fields)
	}
	switch {
	case op == 0:
		return op, []int{0, 1, 2, 3, 127, 128, 255}[w.d.below(7)]
	case op == 2 || op == 3:
		return op, w.d.below(w.m.locals)
	case op == 15 || op == 16 || op == 19:
		return op, w.d.below(7 + len(w.p.classes))
	case op == 17 || op == 18:
		if fields > 0 {
			return op, w.d.below(fields)
		}
	case op == 11 || op == 22 || op == 23:
		if w.d.oneIn(3) {
			return op, 0
		}
	case op != 20 && op != 21:
		return op, 0
	}
	return 24, 0
}

// push writes something that leaves a type that fits t.
func (w *walk) push(t pair) bool {
	for n := range w.now.locals {
		l := w.now.locals[n]
		if l != topType && w.p.fits(l, t) && w.d.oneIn(2) {
			return w.step(2, n)
		}
	}
	if t == intType {
		return w.step(24*w.d.below(2), w.d.below(4))
	}
	return w.step(1, 0)
}

func (w *walk) pushAll(l []pair) bool {
	for _, t := range l {
		if !w.push(t) {
			return false
		}
	}
	return true
}

// object writes a New, and mostly its Init, the object kept in a local or on the stack.
func (w *walk) object() {
	class := w.d.below(7 + len(w.p.classes))
	if !w.step(15, class) || w.d.oneIn(8) {
		return
	}
	if w.d.oneIn(3) {
		n := w.d.below(w.m.locals)
		if !w.step(3, n) || !w.step(2, n) {
			return
		}
	} else if !w.step(5, 0) {
		return
	}
	if w.pushAll(w.p.allFields(class)) {
		w.step(16, class)
	}
}

func (w *walk) call() {
	n := w.d.below(len(w.p.methods))
	m := w.p.methods[n]
	if m.class == api.NoClass {
		if w.pushAll(m.params) {
			w.step(20, n)
		}
		return
	}
	if w.push(ref(m.class)) && w.pushAll(m.params) {
		w.step(21, n)
	}
}

// island: nothing goes on to here. What stands here is a frame that was somewhere else, or what a handler begins with.
func (w *walk) island() {
	at := len(w.m.code)
	if w.d.oneIn(20) {
		w.now = frame{slices.Repeat([]pair{topType}, w.m.locals), nil}
		return
	}
	w.maps[at] = true
	list := places(w.m.code)
	w.now = w.weaker(w.ahead[list[w.d.below(len(list))]])
	if w.m.stack > 0 && w.d.oneIn(2) {
		w.now.stack = []pair{ref(1 + w.d.below(6))}
		w.caught = append(w.caught, at)
	}
}

// weaker: a frame that f fits.
func (w *walk) weaker(f frame) frame {
	g := f.copy()
	for _, l := range [][]pair{g.locals, g.stack} {
		for i, t := range l {
			switch {
			case !w.d.oneIn(3):
			case t[0] == 3 && t[1] != 0 && w.d.oneIn(2):
				over := w.p.over(t[1])
				for c := 0; c < 13; c++ {
					if over[c] && w.d.oneIn(2) {
						l[i] = ref(c)
					}
				}
			case t == nullType && w.d.oneIn(2):
				l[i] = ref(w.d.below(7 + len(w.p.classes)))
			case w.d.oneIn(4):
				l[i] = topType
			}
		}
	}
	return g
}

// end closes the code: what stands behind the last instruction goes nowhere.
func (w *walk) end() {
	if w.d.oneIn(40) || w.step(22, 0) {
		return
	}
	at := len(w.m.code)
	w.maps[at] = true
	w.step(11, at)
}

// aim finds an n for each instruction that goes to one: mostly a place whose frame suits.
func (w *walk) aim() {
	list := places(w.m.code)
	for _, from := range list {
		behind, jumps := w.jumps[from]
		if !jumps {
			continue
		}
		to := list[w.d.below(len(list))]
		for try := 0; try < 30 && !w.p.frameFits(behind, w.ahead[to]); try++ {
			to = list[w.d.below(len(list))]
		}
		w.m.code[from+1] = to
		if !w.d.oneIn(30) {
			w.maps[to] = true
		}
	}
}

// guard writes handlers, each mostly around instructions whose locals suit its target.
func (w *walk) guard() {
	list := places(w.m.code)
	for _, target := range w.caught {
		if len(w.m.handlers) == 4 || !slices.Contains(list, target) {
			return
		}
		suits := func(i int) bool {
			return w.p.frameFits(frame{locals: w.ahead[list[i]].locals}, frame{locals: w.ahead[target].locals})
		}
		first := w.d.below(len(list))
		for try := 0; try < 30 && !suits(first); try++ {
			first = w.d.below(len(list))
		}
		last := first
		for last+1 < len(list) && suits(last+1) && !w.d.oneIn(10) {
			last++
		}
		to := len(w.m.code)
		if last+1 < len(list) {
			to = list[last+1]
		}
		class := w.ahead[target].stack[0][1]
		for try := 0; try < 5; try++ {
			if c := w.d.below(7 + len(w.p.classes)); w.p.over(c)[class] {
				class = c
			}
		}
		w.m.handlers = append(w.m.handlers, handler{list[first], to, target, class})
	}
}
