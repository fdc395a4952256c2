// Package code: the instructions that a method's bytes of code are.
package code

import "stackmap/api"

// Instruction: the place of its first byte, which one it is, and its byte n (0, if it has none).
type Instruction struct {
	Place, Op, N int
}

// HasN tells whether a byte n belongs behind an instruction.
func HasN(op int) bool {
	switch op {
	case api.OpConst, api.OpLoad, api.OpStore,
		api.OpJump, api.OpZero, api.OpLess, api.OpNil,
		api.OpNew, api.OpInit, api.OpGet, api.OpPut, api.OpCast,
		api.OpCall, api.OpSend:
		return true
	}
	return false
}

// GoesToN tells whether an instruction can go to the place n.
func GoesToN(op int) bool {
	switch op {
	case api.OpJump, api.OpZero, api.OpLess, api.OpNil:
		return true
	}
	return false
}

// GoesOn tells whether an instruction can go on to the next one.
func GoesOn(op int) bool {
	switch op {
	case api.OpJump, api.OpReturn, api.OpThrow:
		return false
	}
	return true
}

// Next gives the place behind an instruction.
func Next(one Instruction) int {
	if HasN(one.Op) {
		return one.Place + 2
	}
	return one.Place + 1
}

// Read gives the instructions one behind the other; or false, and the place of the first that can't be read.
func Read(bytes []int) ([]Instruction, int, bool) {
	var list []Instruction
	at := 0
	for at < len(bytes) {
		one, ok := ReadOne(bytes, at)
		if !ok {
			return nil, at, false
		}
		list = append(list, one)
		at = Next(one)
	}
	return list, 0, true
}

// ReadOne gives the instruction whose first byte is the one at a place, if it can be read.
func ReadOne(bytes []int, place int) (Instruction, bool) {
	if place < 0 || place >= len(bytes) {
		return Instruction{}, false
	}
	one := Instruction{Place: place, Op: bytes[place]}
	if one.Op < api.OpConst || one.Op > api.OpOut {
		return Instruction{}, false
	}
	if !HasN(one.Op) {
		return one, true
	}
	if place+1 >= len(bytes) {
		return Instruction{}, false
	}
	one.N = bytes[place+1]
	return one, true
}

// At gives the instruction that begins at a place, if one does.
func At(list []Instruction, place int) (Instruction, bool) {
	for _, one := range list {
		if one.Place == place {
			return one, true
		}
	}
	return Instruction{}, false
}

// Begins tells whether an instruction begins at a place.
func Begins(list []Instruction, place int) bool {
	_, there := At(list, place)
	return there
}

// IsNew tells whether an instruction New begins at a place.
func IsNew(list []Instruction, place int) bool {
	one, there := At(list, place)
	return there && one.Op == api.OpNew
}
