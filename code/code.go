// Package code: the instructions that a method's bytes of code are.
package code

import "stackmap/api"

// Instruction: the place of its first byte, which one it is, and its byte n (0, if it has none).
type Instruction struct {
	Place, Op, N int
}

// HasN tells whether a byte n belongs behind an instruction.
func HasN(op int) bool {
	switch op {
	case api.OpConst, api.OpLoad, api.OpStore,
		api.OpJump, api.OpZero, api.OpLess, api.OpNil,
		api.OpNew, api.OpInit, api.OpGet, api.OpPut, api.OpCast,
		api.OpCall, api.OpSend:
		return true
	}
	return false
}

// Read gives the instructions one behind the other; or false, and the place of the first that can't be read.
func Read(bytes []int) ([]Instruction, int, bool) {
	var list []Instruction
	at := 0
	for at < len(bytes) {
		one := Instruction{Place: at, Op: bytes[at]}
		if one.Op < api.OpConst || one.Op > api.OpOut {
			return nil, one.Place, false
		}
		at++
		if HasN(one.Op) {
			if at >= len(bytes) {
				return nil, one.Place, false
			}
			one.N = bytes[at]
			at++
		}
		list = append(list, one)
	}
	return list, 0, true
}

// Begins tells whether an instruction begins at a place.
func Begins(list []Instruction, place int) bool {
	for _, one := range list {
		if one.Place == place {
			return true
		}
	}
	return false
}

// IsNew tells whether an instruction New begins at a place.
func IsNew(list []Instruction, place int) bool {
	for _, one := range list {
		if one.Place == place {
			return one.Op == api.OpNew
		}
	}
	return false
}
