package machine

import "stackmap/api"

// nothing: the reference to nothing. The reference to the first object is 1.
const nothing = 0

// given: how many objects there are ahead of the run, one for each class from Arith to Deep.
const given = api.ClassDeep - api.ClassArith + 1

// object: its class, and the values of its fields; no list until they are set.
type object struct {
	class  int
	fields []int
}

// heap: the given objects, and behind them those that were made: there is room for so many.
type heap struct {
	objects []object
	room    int
}

func newHeap(room int) heap {
	h := heap{room: room}
	for class := api.ClassArith; class <= api.ClassDeep; class++ {
		h.objects = append(h.objects, object{class: class})
	}
	return h
}

// givenOf gives the reference to the given object of a class.
func givenOf(class int) int {
	return class - api.ClassArith + 1
}

// add makes an object, if there is room.
func (h *heap) add(class int) (int, bool) {
	if len(h.objects)-given >= h.room {
		return nothing, false
	}
	h.objects = append(h.objects, object{class: class})
	return len(h.objects), true
}

func (h *heap) has(reference int) bool {
	return reference >= 1 && reference <= len(h.objects)
}

// classOf: what is nothing has the class Object, but is never asked.
func (h *heap) classOf(reference int) int {
	if !h.has(reference) {
		return api.ClassObject
	}
	return h.objects[reference-1].class
}

func (h *heap) set(reference int, fields []int) {
	if h.has(reference) {
		h.objects[reference-1].fields = fields
	}
}

func (h *heap) get(reference, slot int) int {
	if !h.hasField(reference, slot) {
		return 0
	}
	return h.objects[reference-1].fields[slot]
}

func (h *heap) put(reference, slot, v int) {
	if h.hasField(reference, slot) {
		h.objects[reference-1].fields[slot] = v
	}
}

func (h *heap) hasField(reference, slot int) bool {
	return h.has(reference) && slot >= 0 && slot < len(h.objects[reference-1].fields)
}
