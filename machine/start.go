package machine

import (
	"stackmap/api"
	"stackmap/layout"
)

// StartError tells why a file can't be run from a start: ErrEntry, or ErrArg.
func StartError(f layout.File, s api.Start) api.Errno {
	if !hasEntry(f, s.Entry) {
		return api.ErrEntry
	}
	if s.Heap < 0 || s.Heap > api.MaxHeap || s.Depth < 1 || s.Depth > api.MaxDepth || s.Fuel < 0 || s.Fuel > api.MaxFuel {
		return api.ErrArg
	}
	if !inputsMayBe(s.Inputs) {
		return api.ErrArg
	}
	return api.OK
}

func hasEntry(f layout.File, n int) bool {
	if n < 0 || n >= len(f.Methods) {
		return false
	}
	return f.Methods[n].Class == api.NoClass && len(f.Methods[n].Params) == 0
}

func inputsMayBe(list []int) bool {
	if len(list) > api.MaxInputs {
		return false
	}
	for _, n := range list {
		if n < api.LeastInt || n > api.GreatestInt {
			return false
		}
	}
	return true
}
