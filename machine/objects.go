package machine

import (
	"stackmap/api"
	"stackmap/code"
)

func (m *machine) handle(one code.Instruction) {
	switch one.Op {
	case api.OpNew:
		m.create(one.N)
	case api.OpInit:
		m.setFields(one.N)
	case api.OpGet:
		m.getField(one.N)
	case api.OpPut:
		m.putField(one.N)
	case api.OpCast:
		m.cast(one.N)
	}
}

func (m *machine) create(class int) {
	object, ok := m.heap.add(class)
	if !ok {
		m.throwGiven(api.ClassFull)
		return
	}
	m.now.push(object)
}

func (m *machine) setFields(class int) {
	fields := m.tree.FieldsOf(class)
	values := m.now.popAll(fields)
	object := m.now.pop()
	m.heap.set(object, values)
}

func (m *machine) getField(field int) {
	object := m.now.pop()
	if object == nothing {
		m.throwGiven(api.ClassNil)
		return
	}
	slot := m.tree.Slot(field)
	v := m.heap.get(object, slot)
	m.now.push(v)
}

func (m *machine) putField(field int) {
	v := m.now.pop()
	object := m.now.pop()
	if object == nothing {
		m.throwGiven(api.ClassNil)
		return
	}
	slot := m.tree.Slot(field)
	m.heap.put(object, slot, v)
}

func (m *machine) cast(class int) {
	object := m.now.pop()
	is := m.heap.classOf(object)
	if object != nothing && !m.tree.Within(is, class) {
		m.throwGiven(api.ClassCast)
		return
	}
	m.now.push(object)
}
