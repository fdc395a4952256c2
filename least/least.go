// Package least: the least maps of each method, found from its start frame on.
package least

import (
	"stackmap/code"
	"stackmap/layout"
	"stackmap/rules"
	"stackmap/types"
)

// Fill gives a file without errors of form with the least maps in the place of its own; or false, and the number of the first method that no maps at all would help.
func Fill(f layout.File) (layout.File, int, bool) {
	tree := types.TreeOf(f)
	var filled []layout.Method
	for i, m := range f.Methods {
		maps, found := find(f, tree, m)
		if !found {
			return layout.File{}, i, false
		}
		m.Maps = maps
		filled = append(filled, m)
	}
	return layout.File{Classes: f.Classes, Methods: filled}, 0, true
}

// find gives a method's least maps, if there are maps for it at all.
func find(f layout.File, tree types.Tree, m layout.Method) ([]layout.Map, bool) {
	list, _, _ := code.Read(m.Code)
	s := search{
		tree:   tree,
		method: m,
		list:   list,
		rules:  rules.For(f, tree, m, list),
		spots:  make([]spot, len(m.Code)),
	}
	start := rules.Start(m)
	s.arrive(start, 0)
	// A frame only ever rises, and no type can rise for ever: the rounds come to an end.
	again := true
	for again {
		again = s.round()
	}
	if s.hopeless {
		return nil, false
	}
	return s.maps(), true
}
