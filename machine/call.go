package machine

import (
	"stackmap/api"
	"stackmap/code"
)

// call: an open call of a method. At is the place of the instruction that was begun last, next that of the one that is begun next: a call that waits stays at its Call or Send.
type call struct {
	method, at, next int
	locals           [api.MaxLocals]int
	stack            [api.MaxStack]int
	height           int
}

// newCall: the locals behind the values hold nothing that checked code would load.
func newCall(method int, values []int) call {
	c := call{method: method}
	for i, v := range values {
		c.setLocal(i, v)
	}
	return c
}

// begin gives the instruction that comes next. Checked code has one there.
func (c *call) begin(bytes []int) code.Instruction {
	one, _ := code.ReadOne(bytes, c.next)
	c.at = c.next
	c.next = code.Next(one)
	return one
}

// push and pop: checked code never goes beyond the stack's ends.
func (c *call) push(v int) {
	if c.height < 0 || c.height >= len(c.stack) {
		return
	}
	c.stack[c.height] = v
	c.height++
}

func (c *call) pop() int {
	if c.height < 1 || c.height > len(c.stack) {
		return 0
	}
	c.height--
	return c.stack[c.height]
}

// popAll gives as many values as a list names types, the top one last.
func (c *call) popAll(list []api.Type) []int {
	values := make([]int, len(list))
	for i := len(values) - 1; i >= 0; i-- {
		v := c.pop()
		values[i] = v
	}
	return values
}

func (c *call) local(n int) int {
	if n < 0 || n >= len(c.locals) {
		return 0
	}
	return c.locals[n]
}

func (c *call) setLocal(n, v int) {
	if n >= 0 && n < len(c.locals) {
		c.locals[n] = v
	}
}

// take goes on at a handler's target, with what was thrown alone on the stack.
func (c *call) take(object, target int) {
	c.height = 0
	c.push(object)
	c.next = target
}

func (c *call) move(one code.Instruction) {
	switch one.Op {
	case api.OpConst:
		v := signed(one.N)
		c.push(v)
	case api.OpNull:
		c.push(nothing)
	case api.OpLoad:
		v := c.local(one.N)
		c.push(v)
	case api.OpStore:
		v := c.pop()
		c.setLocal(one.N, v)
	case api.OpPop:
		c.pop()
	case api.OpDup:
		v := c.pop()
		c.push(v)
		c.push(v)
	case api.OpSwap:
		y := c.pop()
		x := c.pop()
		c.push(y)
		c.push(x)
	}
}

func (c *call) branch(one code.Instruction) {
	goes := true
	switch one.Op {
	case api.OpZero:
		x := c.pop()
		goes = x == 0
	case api.OpLess:
		y := c.pop()
		x := c.pop()
		goes = x < y
	case api.OpNil:
		object := c.pop()
		goes = object == nothing
	}
	if goes {
		c.next = one.N
	}
}
