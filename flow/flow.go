// Package flow: the one pass over each method's code that holds its types against the rules and the maps.
package flow

import (
	"stackmap/api"
	"stackmap/code"
	"stackmap/faults"
	"stackmap/layout"
	"stackmap/rules"
	"stackmap/types"
)

// pass: what stays the same while a method is gone through.
type pass struct {
	tree   types.Tree
	method layout.Method
	list   []code.Instruction
	rules  rules.Rules
}

// Find gives the first error of types or maps in a file without errors of form.
func Find(f layout.File) faults.Fault {
	tree := types.TreeOf(f)
	for i, m := range f.Methods {
		list, _, _ := code.Read(m.Code)
		p := pass{tree: tree, method: m, list: list, rules: rules.For(f, tree, m, list)}
		fault := p.find()
		if fault.Err != api.OK {
			fault.Which = i
			return fault
		}
	}
	return faults.Fault{}
}

// find leaves it to its caller to say which method it was.
func (p pass) find() faults.Fault {
	frame := rules.Start(p.method)
	stands := true
	if !p.fitsAnyMap(frame, 0) {
		return faults.Fault{Err: api.ErrFlow}
	}
	for _, one := range p.list {
		mapped, has := p.mapAt(one.Place)
		if has {
			frame = mapped
			stands = true
		}
		if !stands {
			continue
		}
		behind, err := p.look(one, frame)
		if err != api.OK {
			return faults.Fault{Err: err, At: one.Place}
		}
		frame = behind
		stands = code.GoesOn(one.Op)
	}
	return faults.Fault{}
}

// look gives the frame behind an instruction, or what is wrong with the instruction where that frame stands ahead of it.
func (p pass) look(one code.Instruction, ahead rules.Frame) (rules.Frame, api.Errno) {
	err := p.lookAtHandlers(one.Place, ahead)
	if err != api.OK {
		return rules.Frame{}, err
	}
	behind, holds := p.rules.Behind(one, ahead)
	if !holds {
		return rules.Frame{}, api.ErrType
	}
	if code.GoesToN(one.Op) {
		err = p.jump(behind, one.N)
		if err != api.OK {
			return rules.Frame{}, err
		}
	}
	if code.GoesOn(one.Op) {
		next := code.Next(one)
		err = p.goOn(behind, next)
		if err != api.OK {
			return rules.Frame{}, err
		}
	}
	return behind, api.OK
}

func (p pass) lookAtHandlers(place int, ahead rules.Frame) api.Errno {
	for _, h := range p.method.Handlers {
		if !h.Covers(place) {
			continue
		}
		caught := ahead.Caught(h.Class)
		err := p.jump(caught, h.Target)
		if err != api.OK {
			return err
		}
	}
	return api.OK
}

// jump tells what is wrong with going to a place that is not simply the next one: there must be a map.
func (p pass) jump(frame rules.Frame, place int) api.Errno {
	_, has := p.mapAt(place)
	if !has {
		return api.ErrNoMap
	}
	if !p.fitsAnyMap(frame, place) {
		return api.ErrFlow
	}
	return api.OK
}

func (p pass) goOn(frame rules.Frame, next int) api.Errno {
	if next >= len(p.method.Code) {
		return api.ErrEnd
	}
	if !p.fitsAnyMap(frame, next) {
		return api.ErrFlow
	}
	return api.OK
}

// fitsAnyMap tells whether a frame fits the map at a place, if there is one.
func (p pass) fitsAnyMap(frame rules.Frame, place int) bool {
	mapped, has := p.mapAt(place)
	return !has || frame.Fits(p.tree, mapped)
}

func (p pass) mapAt(place int) (rules.Frame, bool) {
	for _, m := range p.method.Maps {
		if m.Place == place {
			return rules.Mapped(m), true
		}
	}
	return rules.Frame{}, false
}
