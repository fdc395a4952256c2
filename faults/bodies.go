package faults

import (
	"stackmap/api"
	"stackmap/code"
	"stackmap/layout"
	"stackmap/types"
)

// body: a method's instructions, and what they and its handlers and maps may name.
type body struct {
	file   layout.File
	tree   types.Tree
	method layout.Method
	list   []code.Instruction
}

func inBodies(f layout.File, tree types.Tree) Fault {
	for i, m := range f.Methods {
		fault := inBody(body{file: f, tree: tree, method: m})
		if fault.Err != api.OK {
			fault.Which = i
			return fault
		}
	}
	return Fault{}
}

// inBody leaves it to its caller to say which method it was.
func inBody(b body) Fault {
	list, place, ok := code.Read(b.method.Code)
	if !ok {
		return Fault{Err: api.ErrCode, At: place}
	}
	b.list = list
	for _, one := range b.list {
		if !b.instructionMayBe(one) {
			return Fault{Err: api.ErrCode, At: one.Place}
		}
	}
	for i, h := range b.method.Handlers {
		if !b.handlerMayBe(h) {
			return Fault{Err: api.ErrHandler, At: i}
		}
	}
	return b.inMaps()
}

func (b body) instructionMayBe(one code.Instruction) bool {
	switch one.Op {
	case api.OpLoad, api.OpStore:
		return one.N < b.method.Locals
	case api.OpJump, api.OpZero, api.OpLess, api.OpNil:
		return code.Begins(b.list, one.N)
	case api.OpNew, api.OpInit, api.OpCast:
		return b.tree.Has(one.N)
	case api.OpGet, api.OpPut:
		return one.N < b.file.FieldCount()
	case api.OpCall:
		return b.hasMethod(one.N, false)
	case api.OpSend:
		return b.hasMethod(one.N, true)
	}
	return true
}

// hasMethod tells whether there is a method with that number that has a class, or that has none, as asked.
func (b body) hasMethod(n int, ofClass bool) bool {
	if n < 0 || n >= len(b.file.Methods) {
		return false
	}
	return (b.file.Methods[n].Class != api.NoClass) == ofClass
}

func (b body) handlerMayBe(h layout.Handler) bool {
	if h.From >= h.To {
		return false
	}
	if !code.Begins(b.list, h.From) || !code.Begins(b.list, h.Target) {
		return false
	}
	if h.To != len(b.method.Code) && !code.Begins(b.list, h.To) {
		return false
	}
	return b.tree.Within(h.Class, api.ClassFault)
}

func (b body) inMaps() Fault {
	lowest := 0
	for i, m := range b.method.Maps {
		if m.Place < lowest || !b.mapMayBe(m) {
			return Fault{Err: api.ErrMap, At: i}
		}
		lowest = m.Place + 1
	}
	return Fault{}
}

func (b body) mapMayBe(m layout.Map) bool {
	return code.Begins(b.list, m.Place) && b.mapTypesMayBe(m.Locals) && b.mapTypesMayBe(m.Stack)
}

func (b body) mapTypesMayBe(list []api.Type) bool {
	for _, t := range list {
		if !b.mapTypeMayBe(t) {
			return false
		}
	}
	return true
}

func (b body) mapTypeMayBe(t api.Type) bool {
	if t.Kind == api.Raw {
		return code.IsNew(b.list, t.N)
	}
	return b.tree.IsSettled(t)
}
