// Package types: which class is below which, which types there are, and which type fits which.
package types

import (
	"stackmap/api"
	"stackmap/layout"
)

// none stands for the class above Object, and above what is no class.
const none = -1

// Tree has, for each class of a file, the number of the class right above it, and the types of its own fields.
type Tree struct {
	above  []int
	fields [][]api.Type
}

// TreeOf gives the tree of a file's classes. Until the classes were looked at (ErrClass) it may be no tree: it can be asked all the same.
func TreeOf(f layout.File) Tree {
	above := []int{none, api.ClassObject}
	for len(above) < api.FirstOwn {
		above = append(above, api.ClassFault)
	}
	fields := make([][]api.Type, api.FirstOwn)
	for _, c := range f.Classes {
		above = append(above, c.Above)
		fields = append(fields, c.Fields)
	}
	return Tree{above: above, fields: fields}
}

// Has tells whether a number is that of a class.
func (t Tree) Has(class int) bool {
	return class >= 0 && class < len(t.above)
}

func (t Tree) over(class int) int {
	if class < 0 || class >= len(t.above) {
		return none
	}
	return t.above[class]
}

// Below tells whether one class is below another, over any number of steps. No class is below itself.
func (t Tree) Below(low, high int) bool {
	// No way up is longer than there are classes, whatever the file says.
	at := t.over(low)
	for step := 0; step < len(t.above) && at != none; step++ {
		if at == high {
			return true
		}
		at = t.over(at)
	}
	return false
}

// Within tells whether one class is another or below it.
func (t Tree) Within(low, high int) bool {
	return low == high || t.Below(low, high)
}

// meet gives the lowest class that both are, or are below.
func (t Tree) meet(a, b int) int {
	for step := 0; step < len(t.above); step++ {
		if t.Within(b, a) {
			return a
		}
		a = t.over(a)
	}
	return api.ClassObject
}

// IsPlain tells whether a is Int, or Ref of a class.
func (t Tree) IsPlain(a api.Type) bool {
	if a.Kind == api.Int {
		return a.N == 0
	}
	return a.Kind == api.Ref && t.Has(a.N)
}

// IsSettled tells whether a is a type other than Raw: which numbers a Raw may have hangs on where it stands.
func (t Tree) IsSettled(a api.Type) bool {
	if a.Kind == api.Top || a.Kind == api.Null {
		return a.N == 0
	}
	return t.IsPlain(a)
}

// IsArgument tells whether a is a type that Fits and Join may be asked about: a Raw has any place that code can have.
func (t Tree) IsArgument(a api.Type) bool {
	if a.Kind == api.Raw {
		return a.N >= 0 && a.N < api.MaxCode
	}
	return t.IsSettled(a)
}

// Fits tells whether what is of type a may stand where b is wanted.
func (t Tree) Fits(a, b api.Type) bool {
	if a == b || b.Kind == api.Top {
		return true
	}
	if b.Kind != api.Ref {
		return false
	}
	if a.Kind == api.Null {
		return true
	}
	return a.Kind == api.Ref && t.Below(a.N, b.N)
}

// Join gives the type that a and b fit and that fits every other one that both fit.
func (t Tree) Join(a, b api.Type) api.Type {
	if t.Fits(a, b) {
		return b
	}
	if t.Fits(b, a) {
		return a
	}
	if a.Kind != api.Ref || b.Kind != api.Ref {
		return api.Type{Kind: api.Top}
	}
	class := t.meet(a.N, b.N)
	return api.Type{Kind: api.Ref, N: class}
}
