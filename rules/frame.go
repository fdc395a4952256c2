// Package rules: the frames that stand ahead of instructions and behind them, and each instruction's rule.
package rules

import (
	"stackmap/api"
	"stackmap/layout"
	"stackmap/types"
)

// Frame: the types of a method's locals and of its stack, the top one last. A frame is never written into: what another one is made from stays as it is.
type Frame struct {
	Locals, Stack []api.Type
}

// Start gives the frame that every call of a method begins with.
func Start(m layout.Method) Frame {
	var locals []api.Type
	if m.Class != api.NoClass {
		locals = append(locals, ref(m.Class))
	}
	locals = append(locals, m.Params...)
	for len(locals) < m.Locals {
		locals = append(locals, top())
	}
	return Frame{Locals: locals}
}

// Mapped gives the frame that a map tells of.
func Mapped(m layout.Map) Frame {
	return Frame{Locals: m.Locals, Stack: m.Stack}
}

// Caught gives the frame that a handler for a class begins with, when something is thrown by an instruction ahead of which f stands.
func (f Frame) Caught(class int) Frame {
	return Frame{Locals: f.Locals, Stack: []api.Type{ref(class)}}
}

// Fits tells whether f may come where other is wanted.
func (f Frame) Fits(tree types.Tree, other Frame) bool {
	return allFit(tree, f.Locals, other.Locals) && allFit(tree, f.Stack, other.Stack)
}

func allFit(tree types.Tree, list, other []api.Type) bool {
	if len(list) != len(other) {
		return false
	}
	for i, t := range list {
		if !tree.Fits(t, other[i]) {
			return false
		}
	}
	return true
}

// Join gives the frame that both fit and that fits every other one that both fit; or false, if there is none: then their stacks are not equally high.
func (f Frame) Join(tree types.Tree, other Frame) (Frame, bool) {
	if len(f.Locals) != len(other.Locals) || len(f.Stack) != len(other.Stack) {
		return Frame{}, false
	}
	locals := allJoined(tree, f.Locals, other.Locals)
	stack := allJoined(tree, f.Stack, other.Stack)
	return Frame{Locals: locals, Stack: stack}, true
}

// allJoined goes as far as the shorter list: its caller has them equally long.
func allJoined(tree types.Tree, list, other []api.Type) []api.Type {
	var joined []api.Type
	for i, t := range list {
		if i < len(other) {
			j := tree.Join(t, other[i])
			joined = append(joined, j)
		}
	}
	return joined
}

func top() api.Type          { return api.Type{Kind: api.Top} }
func whole() api.Type        { return api.Type{Kind: api.Int} }
func null() api.Type         { return api.Type{Kind: api.Null} }
func ref(class int) api.Type { return api.Type{Kind: api.Ref, N: class} }
func raw(place int) api.Type { return api.Type{Kind: api.Raw, N: place} }
