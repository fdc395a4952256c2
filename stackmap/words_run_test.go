package stackmap_test

import (
	"fmt"
	"math/big"
	"slices"

	"stackmap/api"
)

// Run a second time, by the document's words. Here a call is a call of Go's, each value knows what it is, and what checked code never does is a panic: a number taken for a reference, a field that is not set, a stack beyond its ends.

// thing: an object; its fields, by their numbers, are none until they are set. The reference to nothing is a nil *thing.
type thing struct {
	class  int
	fields map[int]any
}

// noFuel is thrown when the next instruction can't be begun.
type noFuel struct{}

// running: a run. Seen tells how often what has come up, so that a test can ask for all of it.
type running struct {
	p      program
	s      api.Start
	inputs []int
	opened int
	made   int
	steps  int
	out    []int
	faults map[int]*thing
	seen   map[string]int
}

// acting: an open call.
type acting struct {
	m      method
	locals []any
	stack  []any
	place  int
}

func (a *acting) push(v any) {
	a.stack = append(a.stack, v)
	if len(a.stack) > a.m.stack {
		panic("the stack is higher than it may be")
	}
}

func (a *acting) pop() any {
	v := a.stack[len(a.stack)-1]
	a.stack = a.stack[:len(a.stack)-1]
	return v
}

func (a *acting) number() int   { return a.pop().(int) }
func (a *acting) thing() *thing { return a.pop().(*thing) }

// inRange: the number that is the same modulo 2^32.
func inRange(n *big.Int) int {
	whole := big.NewInt(1 << 32)
	r := int(new(big.Int).Mod(n, whole).Int64())
	if r >= 1<<31 {
		r -= 1 << 32
	}
	return r
}

// figured: x and y, y not 0 if it divides.
func figured(op, x, y int) int {
	a, b, c := big.NewInt(int64(x)), big.NewInt(int64(y)), new(big.Int)
	switch op {
	case api.OpAdd:
		c.Add(a, b)
	case api.OpSub:
		c.Sub(a, b)
	case api.OpMul:
		c.Mul(a, b)
	case api.OpDiv:
		c.Quo(a, b)
	}
	return inRange(c)
}

// isA: one class is another, or below it.
func (p program) isA(class, other int) bool { return class == other || p.over(class)[other] }

// answering: the method with a name of a class, or of the nearest class above it that has one.
func (p program) answering(class, name int) int {
	for {
		for i, m := range p.methods {
			if m.class == class && m.name == name {
				return i
			}
		}
		if class < 7 {
			panic("nothing answers")
		}
		class = p.classes[class-7].above
	}
}

// numbersOf: the numbers of the fields that an object of a class has, in their order.
func (p program) numbersOf(class int) []int {
	if class < 7 {
		return nil
	}
	first := 0
	for _, c := range p.classes[:class-7] {
		first += len(c.fields)
	}
	l := slices.Clone(p.numbersOf(p.classes[class-7].above))
	for i := range p.classes[class-7].fields {
		l = append(l, first+i)
	}
	return l
}

// call: what the method gives back, or what is thrown out of it.
func (r *running) call(n int, args []any) (any, *thing) {
	m := r.p.methods[n]
	a := &acting{m: m, locals: make([]any, m.locals)}
	copy(a.locals, args)
	r.opened++
	defer func() { r.opened-- }()
	for {
		if r.steps == r.s.Fuel {
			panic(noFuel{})
		}
		r.steps++
		op := m.code[a.place]
		r.seen[fmt.Sprint("instruction ", op)]++
		if op == api.OpReturn {
			if m.result == topType {
				return nil, nil
			}
			return a.pop(), nil
		}
		next, thrown := r.instruction(a, op)
		if thrown != nil {
			next = r.target(a, thrown)
			if next < 0 {
				return nil, thrown
			}
			a.stack = []any{thrown}
		}
		a.place = next
	}
}

// target: where a call goes on when something is thrown, or -1.
func (r *running) target(a *acting, thrown *thing) int {
	for i, h := range a.m.handlers {
		if h.from <= a.place && a.place < h.to && r.p.isA(thrown.class, h.class) {
			r.seen[fmt.Sprint("handler ", i)]++
			return h.target
		}
	}
	return -1
}

// instruction does what one does, but for Return: the place of the next one, or what is thrown.
func (r *running) instruction(a *acting, op int) (int, *thing) {
	n, next := 0, a.place+1
	if takesN[op] {
		n, next = a.m.code[a.place+1], a.place+2
	}
	goes, thrown := false, 0
	switch op {
	case api.OpConst:
		a.push(int(int8(n)))
	case api.OpNull:
		a.push((*thing)(nil))
	case api.OpLoad:
		a.push(a.locals[n])
	case api.OpStore:
		a.locals[n] = a.pop()
	case api.OpPop:
		a.pop()
	case api.OpDup:
		a.push(a.stack[len(a.stack)-1])
	case api.OpSwap:
		y, x := a.pop(), a.pop()
		a.push(y)
		a.push(x)
	case api.OpAdd, api.OpSub, api.OpMul, api.OpDiv:
		y, x := a.number(), a.number()
		if op == api.OpDiv && y == 0 {
			thrown = 2
			break
		}
		a.push(figured(op, x, y))
	case api.OpJump:
		goes = true
	case api.OpZero:
		goes = a.number() == 0
	case api.OpLess:
		y, x := a.number(), a.number()
		goes = x < y
	case api.OpNil:
		goes = a.thing() == nil
	case api.OpThrow:
		o := a.thing()
		if o != nil {
			r.seen["thrown by Throw"]++
			return 0, o
		}
		thrown = 3
	case api.OpIn:
		in := 0
		if len(r.inputs) > 0 {
			in, r.inputs = r.inputs[0], r.inputs[1:]
		}
		a.push(in)
	case api.OpOut:
		r.out = append(r.out, a.number())
	case api.OpCall, api.OpSend:
		out, class := r.passOn(a, op, n)
		if out != nil {
			return 0, out
		}
		thrown = class
	default:
		thrown = r.object(a, op, n)
	}
	if thrown != 0 {
		r.seen[fmt.Sprint("thrown: ", thrown)]++
		return 0, r.faults[thrown]
	}
	if goes {
		r.seen[fmt.Sprint("went: ", op)]++
		return n, nil
	}
	return next, nil
}

// object: New, Init, Get, Put and Cast; the class that is thrown, or 0.
func (r *running) object(a *acting, op, n int) int {
	switch op {
	case api.OpNew:
		if r.made == r.s.Heap {
			return 5
		}
		r.made++
		a.push(&thing{class: n})
	case api.OpInit:
		fields := map[int]any{}
		for _, number := range slices.Backward(r.p.numbersOf(n)) {
			fields[number] = a.pop()
		}
		o := a.thing()
		if o.fields != nil || o.class != n {
			panic("set twice, or as another")
		}
		o.fields = fields
	case api.OpGet:
		o := a.thing()
		if o == nil {
			return 3
		}
		v, set := o.fields[n]
		if !set {
			panic("a field that is not set")
		}
		a.push(v)
	case api.OpPut:
		v, o := a.pop(), a.thing()
		if o == nil {
			return 3
		}
		if _, set := o.fields[n]; !set {
			panic("a field that is not set")
		}
		o.fields[n] = v
	case api.OpCast:
		o := a.thing()
		if o != nil && !r.p.isA(o.class, n) {
			return 4
		}
		a.push(o)
	}
	return 0
}

// passOn: Call and Send: what is thrown out of the call, or the class that is thrown by the instruction itself.
func (r *running) passOn(a *acting, op, n int) (*thing, int) {
	m := r.p.methods[n]
	high := len(m.params)
	if op == api.OpSend {
		high++
	}
	low := len(a.stack) - high
	args := slices.Clone(a.stack[low:])
	a.stack = a.stack[:low]
	if op == api.OpSend {
		o := args[0].(*thing)
		if o == nil {
			return nil, 3
		}
		callee := r.p.answering(o.class, m.name)
		if callee != n {
			r.seen["another method answers"]++
		}
		n = callee
	}
	if r.opened == r.s.Depth {
		return nil, 6
	}
	v, thrown := r.call(n, args)
	if thrown != nil {
		r.seen["thrown out of a call"]++
		return thrown, 0
	}
	if v != nil {
		a.push(v)
	}
	return nil, 0
}

// started: the run of a program that is right, from a start that may be.
func started(p program, s api.Start, seen map[string]int) (o api.Outcome) {
	r := &running{p: p, s: s, inputs: s.Inputs, faults: map[int]*thing{}, seen: seen}
	for class := 2; class <= 6; class++ {
		r.faults[class] = &thing{class: class}
	}
	defer func() {
		if e := recover(); e != nil {
			if _, is := e.(noFuel); !is {
				panic(e)
			}
			o = api.Outcome{Out: r.out, Status: api.OutOf, Steps: r.steps}
		}
		seen[fmt.Sprint("status ", o.Status)]++
	}()
	v, thrown := r.call(s.Entry, nil)
	o = api.Outcome{Out: r.out, Status: api.Returned, Steps: r.steps}
	if n, is := v.(int); is {
		o.Value = n
	}
	if thrown != nil {
		o.Status, o.Value = api.Uncaught, thrown.class
	}
	return o
}

// startByWords: what is against a start, for a program that is right.
func startByWords(p program, s api.Start) api.Errno {
	if s.Entry < 0 || s.Entry >= len(p.methods) || p.methods[s.Entry].class != 255 || p.methods[s.Entry].params != nil {
		return api.ErrEntry
	}
	if s.Heap < 0 || s.Heap > 30 || s.Depth < 1 || s.Depth > 12 || s.Fuel < 0 || s.Fuel > 3000 || len(s.Inputs) > 20 {
		return api.ErrArg
	}
	for _, n := range s.Inputs {
		if n < -1<<31 || n >= 1<<31 {
			return api.ErrArg
		}
	}
	return api.OK
}

// runByWords: what Run is to answer for a file of which Check answers v.
func runByWords(file string, v verdict, s api.Start, seen map[string]int) (api.Outcome, api.Errno) {
	if v.e != api.OK {
		return api.Outcome{}, v.e
	}
	p, _ := parseByWords(file)
	if e := startByWords(p, s); e != api.OK {
		return api.Outcome{}, e
	}
	return started(p, s, seen), api.OK
}
