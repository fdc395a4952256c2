package stackmap_test

import (
	"slices"

	"stackmap/api"
)

// The rules of types and the pass over the code a second time, by the document's words, to hold the program's answers against.

type frame struct{ locals, stack []pair }

func (f frame) copy() frame { return frame{slices.Clone(f.locals), slices.Clone(f.stack)} }

func (p program) fits(a, b pair) bool {
	return a == b || b == topType || b[0] == 3 && (a == nullType || a[0] == 3 && p.over(a[1])[b[1]])
}

func (p program) frameFits(f, g frame) bool {
	fits := func(a, b pair) int {
		if p.fits(a, b) {
			return 0
		}
		return 1
	}
	return slices.CompareFunc(f.locals, g.locals, fits) == 0 && slices.CompareFunc(f.stack, g.stack, fits) == 0
}

// columns: what an instruction takes and leaves, by P10's table, a letter for one or more types (see spelled).
var columns = map[int][2]string{
	0: {"", "I"}, 1: {"", "N"},
	7: {"II", "I"}, 8: {"II", "I"}, 9: {"II", "I"}, 10: {"II", "I"},
	11: {"", ""}, 12: {"I", ""}, 13: {"II", ""}, 14: {"O", ""},
	17: {"f", "t"}, 18: {"ft", ""}, 19: {"O", "c"},
	20: {"p", "r"}, 21: {"mp", "r"}, 22: {"R", ""}, 23: {"F", ""},
	24: {"", "I"}, 25: {"I", ""},
}

// spelled: the types that the letters of a column stand for.
func (p program) spelled(m method, letters string, n int) []pair {
	var l []pair
	for _, c := range letters {
		switch c {
		case 'I':
			l = append(l, intType)
		case 'N':
			l = append(l, nullType)
		case 'O':
			l = append(l, ref(0))
		case 'F':
			l = append(l, ref(1))
		case 'c':
			l = append(l, ref(n))
		case 'f':
			class, _ := p.fieldByNumber(n)
			l = append(l, ref(class))
		case 't':
			_, t := p.fieldByNumber(n)
			l = append(l, t)
		case 'm':
			l = append(l, ref(p.methods[n].class))
		case 'p':
			l = append(l, p.methods[n].params...)
		case 'r':
			l = append(l, p.methods[n].result)
		case 'R':
			l = append(l, m.result)
		}
	}
	// A result of Top is none.
	return slices.DeleteFunc(l, func(t pair) bool { return t == topType })
}

func (p program) fieldByNumber(n int) (int, pair) {
	var classes []int
	var types []pair
	for i, c := range p.classes {
		for _, t := range c.fields {
			classes, types = append(classes, 7+i), append(types, t)
		}
	}
	return classes[n], types[n]
}

// allFields: the fields of the class above and, behind these, its own.
func (p program) allFields(class int) []pair {
	if class < 7 {
		return nil
	}
	c := p.classes[class-7]
	return append(slices.Clone(p.allFields(c.above)), c.fields...)
}

// ruled: the frame behind the instruction at a place, and whether its rule holds.
func (p program) ruled(m method, place int, ahead frame) (frame, bool) {
	f, op, n := ahead.copy(), m.code[place], 0
	if takesN[op] {
		n = m.code[place+1]
	}
	rename := func(old, fresh pair) {
		for _, l := range [][]pair{f.locals, f.stack} {
			for i := range l {
				if l[i] == old {
					l[i] = fresh
				}
			}
		}
	}
	high := len(f.stack)
	switch op {
	case api.OpLoad:
		if f.locals[n] == topType {
			return frame{}, false
		}
		f.stack = append(f.stack, f.locals[n])
	case api.OpStore, api.OpPop, api.OpDup:
		if high < 1 {
			return frame{}, false
		}
		a := f.stack[high-1]
		if op == api.OpDup {
			f.stack = append(f.stack, a)
			break
		}
		f.stack = f.stack[:high-1]
		if op == api.OpStore {
			f.locals[n] = a
		}
	case api.OpSwap:
		if high < 2 {
			return frame{}, false
		}
		f.stack[high-2], f.stack[high-1] = f.stack[high-1], f.stack[high-2]
	case api.OpNew:
		rename(raw(place), topType)
		f.stack = append(f.stack, raw(place))
	case api.OpInit:
		fields := p.allFields(n)
		low := high - len(fields) - 1
		if low < 0 || !p.frameFits(frame{stack: f.stack[low+1:]}, frame{stack: fields}) {
			return frame{}, false
		}
		r := f.stack[low]
		if r[0] != 4 || m.code[r[1]+1] != n {
			return frame{}, false
		}
		f.stack = f.stack[:low]
		rename(r, ref(n))
	default:
		takes, leaves := p.spelled(m, columns[op][0], n), p.spelled(m, columns[op][1], n)
		low := high - len(takes)
		if low < 0 || !p.frameFits(frame{stack: f.stack[low:]}, frame{stack: takes}) {
			return frame{}, false
		}
		f.stack = append(f.stack[:low], leaves...)
	}
	return f, len(f.stack) <= m.stack
}

func (m method) startFrame() frame {
	var f frame
	if m.class != 255 {
		f.locals = append(f.locals, ref(m.class))
	}
	f.locals = append(f.locals, m.params...)
	for len(f.locals) < m.locals {
		f.locals = append(f.locals, topType)
	}
	return f
}

func (m method) frameOfMap(place int) (frame, bool) {
	i := slices.IndexFunc(m.maps, func(s stackMap) bool { return s.place == place })
	if i < 0 {
		return frame{}, false
	}
	return frame{m.maps[i].locals, m.maps[i].stack}, true
}

func canGoOn(op int) bool { return op != 11 && op != 22 && op != 23 }

// places: where the instructions of a code begin, in their order.
func places(code []int) []int {
	set, _, _ := starts(code)
	var l []int
	for at := range code {
		if _, there := set[at]; there {
			l = append(l, at)
		}
	}
	return l
}

// frameAhead: the frame ahead of the i-th instruction, if one stands there. Asked only where the instructions before it are right.
func (p program) frameAhead(m method, list []int, i int) (frame, bool) {
	if f, has := m.frameOfMap(list[i]); has {
		return f, true
	}
	if i == 0 {
		return m.startFrame(), true
	}
	before, stands := p.frameAhead(m, list, i-1)
	if !stands || !canGoOn(m.code[list[i-1]]) {
		return frame{}, false
	}
	return p.ruled(m, list[i-1], before)
}

// arriving: what is wrong with a frame that comes to a place.
func (p program) arriving(m method, f frame, place int, wanted bool) api.Errno {
	g, has := m.frameOfMap(place)
	switch {
	case !has && wanted:
		return api.ErrNoMap
	case has && !p.frameFits(f, g):
		return api.ErrFlow
	}
	return api.OK
}

// instructionErrors: all that is wrong with the i-th instruction, in the order of P11's steps.
func (p program) instructionErrors(m method, list []int, i int) []api.Errno {
	ahead, stands := p.frameAhead(m, list, i)
	if !stands {
		return nil
	}
	place, op := list[i], m.code[list[i]]
	var l []api.Errno
	for _, h := range m.handlers {
		if h.from <= place && place < h.to {
			l = append(l, p.arriving(m, frame{ahead.locals, []pair{ref(h.class)}}, h.target, true))
		}
	}
	behind, holds := p.ruled(m, place, ahead)
	if !holds {
		return append(l, api.ErrType)
	}
	if op >= 11 && op <= 14 {
		l = append(l, p.arriving(m, behind, m.code[place+1], true))
	}
	if canGoOn(op) && i == len(list)-1 {
		l = append(l, api.ErrEnd)
	}
	if canGoOn(op) && i < len(list)-1 {
		l = append(l, p.arriving(m, behind, list[i+1], false))
	}
	return l
}

// typesByWords: what the rules and the maps give for a program without errors of form.
func typesByWords(p program) verdict {
	for which, m := range p.methods {
		if e := p.arriving(m, m.startFrame(), 0, false); e != api.OK {
			return verdict{e, which, 0}
		}
		list := places(m.code)
		for i := range list {
			for _, e := range p.instructionErrors(m, list, i) {
				if e != api.OK {
					return verdict{e, which, list[i]}
				}
			}
		}
	}
	return verdict{}
}
