package types

import "stackmap/api"

// Field gives the class whose own field n is, and the field's type; none and Top, if there is no such field.
func (t Tree) Field(n int) (int, api.Type) {
	first := 0
	for class, own := range t.fields {
		if n >= first && n-first < len(own) {
			return class, own[n-first]
		}
		first += len(own)
	}
	return none, api.Type{}
}

// FieldsOf gives the types of all the fields that an object of a class has, in their order.
func (t Tree) FieldsOf(class int) []api.Type {
	var list []api.Type
	// A class above has a lower number: by their numbers the fields of the classes above come first.
	for other, own := range t.fields {
		if other == class || t.Below(class, other) {
			list = append(list, own...)
		}
	}
	return list
}
