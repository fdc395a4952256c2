package machine

import "stackmap/api"

// signed gives the number that a byte means with Const.
func signed(b int) int {
	if b > 127 {
		return b - 256
	}
	return b
}

// reckoned gives what an instruction makes of two numbers; or false, if it divides by 0. In 32 bits a number that goes out of its range comes round to it by itself, the one quotient that does so too.
func reckoned(op, x, y int) (int, bool) {
	a := int32(x)
	b := int32(y)
	switch op {
	case api.OpAdd:
		return int(a + b), true
	case api.OpSub:
		return int(a - b), true
	case api.OpMul:
		return int(a * b), true
	}
	if b == 0 {
		return 0, false
	}
	return int(a / b), true
}
