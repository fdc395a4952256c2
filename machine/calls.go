package machine

import "stackmap/api"

func (m *machine) call(n int) {
	callee := m.method(n)
	values := m.now.popAll(callee.Params)
	m.openCall(n, values)
}

func (m *machine) send(n int) {
	named := m.method(n)
	params := m.now.popAll(named.Params)
	object := m.now.pop()
	if object == nothing {
		m.throwGiven(api.ClassNil)
		return
	}
	class := m.heap.classOf(object)
	callee := m.nearest(class, named.Name)
	values := []int{object}
	values = append(values, params...)
	m.openCall(callee, values)
}

// nearest gives the number of the method with a name that an object of a class answers with. Of the classes above one another the lower ones have the higher numbers.
func (m *machine) nearest(class, name int) int {
	found := 0
	highest := 0
	for i, one := range m.file.Methods {
		if one.Name == name && one.Class >= highest && m.tree.Within(class, one.Class) {
			found = i
			highest = one.Class
		}
	}
	return found
}

func (m *machine) openCall(method int, values []int) {
	if len(m.waiting)+1 >= m.start.Depth {
		m.throwGiven(api.ClassDeep)
		return
	}
	m.waiting = append(m.waiting, m.now)
	m.now = newCall(method, values)
}

// endCall ends the call that was opened last, and tells whether there is one that had opened it.
func (m *machine) endCall() bool {
	last := len(m.waiting) - 1
	if last < 0 {
		return false
	}
	m.now = m.waiting[last]
	m.waiting = m.waiting[:last]
	return true
}

func (m *machine) giveBack() {
	result := m.method(m.now.method).Result
	gives := result.Kind != api.Top
	v := 0
	if gives {
		v = m.now.pop()
	}
	waited := m.endCall()
	switch {
	case !waited && result.Kind == api.Int:
		m.end(api.Returned, v)
	case !waited:
		// A reference is no number that an outcome could tell.
		m.end(api.Returned, 0)
	case gives:
		m.now.push(v)
	}
}
