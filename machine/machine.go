// Package machine: runs the code of a file that Check has nothing against. A value is a number or a reference, and nothing tells which: the code was checked.
package machine

import (
	"stackmap/api"
	"stackmap/code"
	"stackmap/layout"
	"stackmap/types"
)

// machine: a run. The calls that wait are all open ones but the one that was opened last, which is now's.
type machine struct {
	file    layout.File
	tree    types.Tree
	start   api.Start
	read    int // how many of the inputs were read
	heap    heap
	now     call
	waiting []call
	ended   bool
	outcome api.Outcome
}

// Run runs a file from a start that StartError has nothing against.
func Run(f layout.File, s api.Start) api.Outcome {
	m := machine{
		file:  f,
		tree:  types.TreeOf(f),
		start: s,
		heap:  newHeap(s.Heap),
		now:   newCall(s.Entry, nil),
	}
	for !m.ended {
		if m.outcome.Steps >= s.Fuel {
			m.end(api.OutOf, 0)
		} else {
			m.step()
		}
	}
	return m.outcome
}

func (m *machine) end(status, value int) {
	m.outcome.Status = status
	m.outcome.Value = value
	m.ended = true
}

func (m *machine) step() {
	m.outcome.Steps++
	method := m.method(m.now.method)
	one := m.now.begin(method.Code)
	m.do(one)
}

// method gives the method with a number. What was checked names no other.
func (m *machine) method(n int) layout.Method {
	if n < 0 || n >= len(m.file.Methods) {
		return layout.Method{}
	}
	return m.file.Methods[n]
}

func (m *machine) do(one code.Instruction) {
	switch one.Op {
	case api.OpConst, api.OpNull, api.OpLoad, api.OpStore, api.OpPop, api.OpDup, api.OpSwap:
		m.now.move(one)
	case api.OpAdd, api.OpSub, api.OpMul, api.OpDiv:
		m.reckon(one.Op)
	case api.OpJump, api.OpZero, api.OpLess, api.OpNil:
		m.now.branch(one)
	case api.OpNew, api.OpInit, api.OpGet, api.OpPut, api.OpCast:
		m.handle(one)
	case api.OpCall:
		m.call(one.N)
	case api.OpSend:
		m.send(one.N)
	case api.OpReturn:
		m.giveBack()
	case api.OpThrow:
		m.throwTaken()
	case api.OpIn:
		m.in()
	case api.OpOut:
		m.out()
	}
}

func (m *machine) reckon(op int) {
	y := m.now.pop()
	x := m.now.pop()
	z, ok := reckoned(op, x, y)
	if !ok {
		m.throwGiven(api.ClassArith)
		return
	}
	m.now.push(z)
}

func (m *machine) in() {
	n := 0
	if m.read >= 0 && m.read < len(m.start.Inputs) {
		n = m.start.Inputs[m.read]
		m.read++
	}
	m.now.push(n)
}

func (m *machine) out() {
	n := m.now.pop()
	m.outcome.Out = append(m.outcome.Out, n)
}
