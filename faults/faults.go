// Package faults: the errors of form that the parts of a file have: its classes, its methods' heads, and what the methods hold.
package faults

import (
	"stackmap/api"
	"stackmap/layout"
	"stackmap/types"
)

// Fault: an error, and the two numbers that are told beside it. Without an error all is 0.
type Fault struct {
	Err       api.Errno
	Which, At int
}

// Find gives the first error of form in a file that could be read.
func Find(f layout.File) Fault {
	fault := InClasses(f)
	if fault.Err != api.OK {
		return fault
	}
	tree := types.TreeOf(f)
	fault = inHeads(f, tree)
	if fault.Err != api.OK {
		return fault
	}
	return inBodies(f, tree)
}

// InClasses gives the first error of the own classes alone.
func InClasses(f layout.File) Fault {
	tree := types.TreeOf(f)
	for i, c := range f.Classes {
		number := api.FirstOwn + i
		if c.Above >= number || !allPlain(tree, c.Fields) {
			return Fault{Err: api.ErrClass, Which: number}
		}
	}
	return Fault{}
}

func allPlain(tree types.Tree, list []api.Type) bool {
	for _, t := range list {
		if !tree.IsPlain(t) {
			return false
		}
	}
	return true
}
