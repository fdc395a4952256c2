package machine

import "stackmap/api"

// throwGiven throws the object that there is of a class ahead of the run.
func (m *machine) throwGiven(class int) {
	object := givenOf(class)
	m.throw(object)
}

func (m *machine) throwTaken() {
	object := m.now.pop()
	if object == nothing {
		m.throwGiven(api.ClassNil)
		return
	}
	m.throw(object)
}

// throw ends calls until one has a handler that takes the object.
func (m *machine) throw(object int) {
	class := m.heap.classOf(object)
	open := true
	for open {
		target, takes := m.target(class)
		if takes {
			m.now.take(object, target)
			return
		}
		open = m.endCall()
	}
	m.end(api.Uncaught, class)
}

// target gives where the call that was opened last goes on when an object of a class is thrown, if it has a handler for that.
func (m *machine) target(class int) (int, bool) {
	for _, h := range m.method(m.now.method).Handlers {
		if h.Covers(m.now.at) && m.tree.Within(class, h.Class) {
			return h.Target, true
		}
	}
	return 0, false
}
