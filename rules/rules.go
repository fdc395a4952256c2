package rules

import (
	"stackmap/api"
	"stackmap/code"
	"stackmap/layout"
	"stackmap/types"
)

// Rules: what the rules of one method's instructions ask for.
type Rules struct {
	file   layout.File
	tree   types.Tree
	method layout.Method
	list   []code.Instruction
}

// For gives the rules for a method with these instructions, of a file without errors of form.
func For(f layout.File, tree types.Tree, m layout.Method, list []code.Instruction) Rules {
	return Rules{file: f, tree: tree, method: m, list: list}
}

// Behind gives the frame behind an instruction; or false, if its rule does not hold with the frame ahead of it.
func (r Rules) Behind(one code.Instruction, ahead Frame) (Frame, bool) {
	b := benchFor(r.tree, ahead, r.method.Stack)
	switch one.Op {
	case api.OpLoad:
		b.load(one.N)
	case api.OpStore:
		b.store(one.N)
	case api.OpPop:
		b.take()
	case api.OpDup:
		t := b.take()
		b.leave(t)
		b.leave(t)
	case api.OpSwap:
		t := b.take()
		under := b.take()
		b.leave(t)
		b.leave(under)
	case api.OpNew:
		// An older object of the same New can't be told from the new one any more.
		b.become(raw(one.Place), top())
		b.leave(raw(one.Place))
	case api.OpInit:
		r.set(&b, one.N)
	default:
		takes := r.takes(one)
		b.takeAll(takes)
		leaves := r.leaves(one)
		b.leaveAll(leaves)
	}
	return b.behind()
}

// set is Init's rule: from here on all that the object is known by is a reference.
func (r Rules) set(b *bench, class int) {
	fields := r.tree.FieldsOf(class)
	b.takeAll(fields)
	t := b.take()
	if t.Kind != api.Raw || !r.isNewOf(t.N, class) {
		b.broken = true
		return
	}
	b.become(t, ref(class))
}

// isNewOf tells whether at a place there is a New of that class.
func (r Rules) isNewOf(place, class int) bool {
	one, there := code.At(r.list, place)
	return there && one.Op == api.OpNew && one.N == class
}

// takes gives the types that an instruction asks for, where these do not hang on the frame.
func (r Rules) takes(one code.Instruction) []api.Type {
	switch one.Op {
	case api.OpAdd, api.OpSub, api.OpMul, api.OpDiv, api.OpLess:
		return []api.Type{whole(), whole()}
	case api.OpZero, api.OpOut:
		return []api.Type{whole()}
	case api.OpNil, api.OpCast:
		return []api.Type{ref(api.ClassObject)}
	case api.OpGet:
		class, _ := r.tree.Field(one.N)
		return []api.Type{ref(class)}
	case api.OpPut:
		class, t := r.tree.Field(one.N)
		return []api.Type{ref(class), t}
	case api.OpCall:
		return r.named(one.N).Params
	case api.OpSend:
		m := r.named(one.N)
		list := []api.Type{ref(m.Class)}
		return append(list, m.Params...)
	case api.OpReturn:
		return given(r.method)
	case api.OpThrow:
		return []api.Type{ref(api.ClassFault)}
	}
	return nil
}

// leaves gives the types that an instruction leaves, where these do not hang on the frame.
func (r Rules) leaves(one code.Instruction) []api.Type {
	switch one.Op {
	case api.OpConst, api.OpIn, api.OpAdd, api.OpSub, api.OpMul, api.OpDiv:
		return []api.Type{whole()}
	case api.OpNull:
		return []api.Type{null()}
	case api.OpGet:
		_, t := r.tree.Field(one.N)
		return []api.Type{t}
	case api.OpCast:
		return []api.Type{ref(one.N)}
	case api.OpCall, api.OpSend:
		m := r.named(one.N)
		return given(m)
	}
	return nil
}

// named gives the method with a number. Without errors of form there is one.
func (r Rules) named(n int) layout.Method {
	if n < 0 || n >= len(r.file.Methods) {
		return layout.Method{}
	}
	return r.file.Methods[n]
}

// given gives what a method gives back: one type, or none.
func given(m layout.Method) []api.Type {
	if m.Result.Kind == api.Top {
		return nil
	}
	return []api.Type{m.Result}
}
