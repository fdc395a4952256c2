package faults

import (
	"stackmap/api"
	"stackmap/layout"
	"stackmap/types"
)

func inHeads(f layout.File, tree types.Tree) Fault {
	for i, m := range f.Methods {
		if !headMayBe(tree, m) || isTwin(f.Methods[:i], m) || breaksHeir(f, tree, m) {
			return Fault{Err: api.ErrMethod, Which: i}
		}
	}
	return Fault{}
}

// headMayBe looks at what a method's head says by itself, without the other methods.
func headMayBe(tree types.Tree, m layout.Method) bool {
	if !allPlain(tree, m.Params) || !resultMayBe(tree, m.Result) {
		return false
	}
	if m.Class == api.NoClass {
		return m.Name == 0 && m.Locals >= len(m.Params)
	}
	return m.Class >= api.FirstOwn && tree.Has(m.Class) && m.Locals > len(m.Params)
}

func resultMayBe(tree types.Tree, result api.Type) bool {
	return result == api.Type{Kind: api.Top} || tree.IsPlain(result)
}

func isTwin(earlier []layout.Method, m layout.Method) bool {
	if m.Class == api.NoClass {
		return false
	}
	for _, other := range earlier {
		if other.Class == m.Class && other.Name == m.Name {
			return true
		}
	}
	return false
}

// breaksHeir tells whether m stands in for a method of a class above, but is not called in the same way. The other may stand behind m.
func breaksHeir(f layout.File, tree types.Tree, m layout.Method) bool {
	if m.Class == api.NoClass {
		return false
	}
	for _, other := range f.Methods {
		if other.Name == m.Name && tree.Below(m.Class, other.Class) && !sameCall(other, m) {
			return true
		}
	}
	return false
}

func sameCall(a, b layout.Method) bool {
	if a.Result != b.Result || len(a.Params) != len(b.Params) {
		return false
	}
	for i, t := range a.Params {
		if i >= len(b.Params) || b.Params[i] != t {
			return false
		}
	}
	return true
}
