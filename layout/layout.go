// Package layout: a file's bytes, and the parts that they tell of. What the parts mean is judged elsewhere.
package layout

import "stackmap/api"

// File: a file's own classes and its methods, in their order.
type File struct {
	Classes []Class
	Methods []Method
}

// Class: an own class: the class above it, and the types of its own fields.
type Class struct {
	Above  int
	Fields []api.Type
}

// Method: a method's head, its code byte by byte, its handlers and maps. Stack is how high its stack may be.
type Method struct {
	Class, Name   int
	Params        []api.Type
	Result        api.Type
	Locals, Stack int
	Code          []int
	Handlers      []Handler
	Maps          []Map
}

// Handler: what is thrown from From on and ahead of To, and is of Class, goes to Target.
type Handler struct {
	From, To, Target, Class int
}

// Covers tells whether what is thrown at a place may go to the handler.
func (h Handler) Covers(place int) bool {
	return h.From <= place && place < h.To
}

// Map: the types of the locals and of the stack at a place, the top of the stack last.
type Map struct {
	Place         int
	Locals, Stack []api.Type
}

// FieldCount: how many fields have a number.
func (f File) FieldCount() int {
	n := 0
	for _, c := range f.Classes {
		n += len(c.Fields)
	}
	return n
}

// WithoutMaps gives the same file with no map in any method.
func (f File) WithoutMaps() File {
	var bare []Method
	for _, m := range f.Methods {
		m.Maps = nil
		bare = append(bare, m)
	}
	return File{Classes: f.Classes, Methods: bare}
}
