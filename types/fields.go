package types

import "stackmap/api"

// owner gives the class whose own field n is, and which of its own fields that is; none, if there is no such field.
func (t Tree) owner(n int) (int, int) {
	first := 0
	for class, own := range t.fields {
		if n >= first && n-first < len(own) {
			return class, n - first
		}
		first += len(own)
	}
	return none, 0
}

// own gives the types of a class's own fields.
func (t Tree) own(class int) []api.Type {
	if class < 0 || class >= len(t.fields) {
		return nil
	}
	return t.fields[class]
}

// Field gives the class whose own field n is, and the field's type; none and Top, if there is no such field.
func (t Tree) Field(n int) (int, api.Type) {
	class, i := t.owner(n)
	own := t.own(class)
	if i < 0 || i >= len(own) {
		return none, api.Type{}
	}
	return class, own[i]
}

// Slot gives where field n stands among all the fields that an object has; below 0, if there is no such field.
func (t Tree) Slot(n int) int {
	class, i := t.owner(n)
	if class == none {
		return none
	}
	// An object of a class further below has these same fields, and others only behind them.
	all := t.FieldsOf(class)
	own := t.own(class)
	return len(all) - len(own) + i
}

// FieldsOf gives the types of all the fields that an object of a class has, in their order.
func (t Tree) FieldsOf(class int) []api.Type {
	var list []api.Type
	// A class above has a lower number: by their numbers the fields of the classes above come first.
	for other, own := range t.fields {
		if t.Within(class, other) {
			list = append(list, own...)
		}
	}
	return list
}
