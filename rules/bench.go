package rules

import (
	"stackmap/api"
	"stackmap/types"
)

// bench: a frame that a rule is at work on, in lists of its own. Once something does not hold, nothing that comes later mends it.
type bench struct {
	tree          types.Tree
	locals, stack []api.Type
	highest       int
	broken        bool
}

func benchFor(tree types.Tree, ahead Frame, highest int) bench {
	return bench{tree: tree, locals: copied(ahead.Locals), stack: copied(ahead.Stack), highest: highest}
}

func copied(list []api.Type) []api.Type {
	var fresh []api.Type
	fresh = append(fresh, list...)
	return fresh
}

// behind gives the frame as it is now, and whether the rule holds.
func (b *bench) behind() (Frame, bool) {
	if b.broken {
		return Frame{}, false
	}
	return Frame{Locals: b.locals, Stack: b.stack}, true
}

// take takes what is on top, whatever it is.
func (b *bench) take() api.Type {
	last := len(b.stack) - 1
	if last < 0 {
		b.broken = true
		return top()
	}
	t := b.stack[last]
	b.stack = b.stack[:last]
	return t
}

// takeAll takes types that fit those of a list, the last of them from the top.
func (b *bench) takeAll(list []api.Type) {
	for i := len(list) - 1; i >= 0; i-- {
		t := b.take()
		if !b.tree.Fits(t, list[i]) {
			b.broken = true
		}
	}
}

func (b *bench) leave(t api.Type) {
	if len(b.stack) >= b.highest {
		b.broken = true
		return
	}
	b.stack = append(b.stack, t)
}

func (b *bench) leaveAll(list []api.Type) {
	for _, t := range list {
		b.leave(t)
	}
}

func (b *bench) load(n int) {
	if n < 0 || n >= len(b.locals) || b.locals[n].Kind == api.Top {
		b.broken = true
		return
	}
	b.leave(b.locals[n])
}

func (b *bench) store(n int) {
	t := b.take()
	if n < 0 || n >= len(b.locals) {
		b.broken = true
		return
	}
	b.locals[n] = t
}

// become puts one type in the place of another, wherever that stands.
func (b *bench) become(old, fresh api.Type) {
	for i, t := range b.locals {
		if t == old {
			b.locals[i] = fresh
		}
	}
	for i, t := range b.stack {
		if t == old {
			b.stack[i] = fresh
		}
	}
}
