package stackmap_test

import (
	"fmt"
	"testing"

	"stackmap/api"
)

// takesN: the instructions with a byte n, as P10's table has them.
var takesN = map[int]bool{0: true, 2: true, 3: true, 11: true, 12: true, 13: true, 14: true, 15: true, 16: true, 17: true, 18: true, 19: true, 20: true, 21: true}

// holder: a file of classes 7 to 10 with fields 0 to 2 in all, and methods: 0 and 3 without a class, 1 and 2 with one; method 3 has that code and 3 locals.
func holder(code ...int) program {
	m := plainMethod()
	m.locals, m.stack, m.code = 3, 2, code
	return program{
		[]class{{0, []pair{intType}}, {7, nil}, {8, []pair{intType, ref(0)}}, {1, nil}},
		[]method{plainMethod(), ownMethod(7, 1, topType), ownMethod(8, 2, topType), m},
	}
}

func TestP6CanNotBeRead(t *testing.T) {
	for op := 0; op < 256; op++ {
		what := fmt.Sprint("the last byte is ", op)
		wantIf(t, op <= 25 && !takesN[op], what, holder(api.OpReturn, api.OpReturn, op).file(), api.ErrCode, 3, 2)
		wantIf(t, op <= 25 && !takesN[op], what+", the only one", holder(op).file(), api.ErrCode, 3, 0)
		// Behind it stands 99, which is no instruction.
		if op <= 25 && !takesN[op] {
			wantError(t, what+", but one", holder(api.OpReturn, op, 99).file(), api.ErrCode, 3, 2)
		}
	}
	wantError(t, "read one behind the other", holder(api.OpReturn, api.OpConst, 99, api.OpConst, 99, 99).file(), api.ErrCode, 3, 5)
}

func TestP6N(t *testing.T) {
	may := map[int]func(n int) bool{
		api.OpConst: func(n int) bool { return true },
	}
	local := func(n int) bool { return n < 3 }
	class := func(n int) bool { return n <= 10 }
	field := func(n int) bool { return n <= 2 }
	place := func(n int) bool { return n == 0 || n == 1 || n == 3 || n == 5 }
	for _, op := range []int{api.OpLoad, api.OpStore} {
		may[op] = local
	}
	for _, op := range []int{api.OpNew, api.OpInit, api.OpCast} {
		may[op] = class
	}
	for _, op := range []int{api.OpGet, api.OpPut} {
		may[op] = field
	}
	for _, op := range []int{api.OpJump, api.OpZero, api.OpLess, api.OpNil} {
		may[op] = place
	}
	may[api.OpCall] = func(n int) bool { return n == 0 || n == 3 }
	may[api.OpSend] = func(n int) bool { return n == 1 || n == 2 }
	for op := range takesN {
		for n := 0; n < 256; n++ {
			// Instructions begin at 0, 1, 3 and 5.
			file := holder(api.OpReturn, api.OpConst, 0, op, n, api.OpReturn).file()
			wantIf(t, may[op](n), fmt.Sprintf("instruction %d with %d", op, n), file, api.ErrCode, 3, 3)
		}
	}
}

func TestP6NothingToName(t *testing.T) {
	for _, c := range [][]int{{api.OpLoad, 0}, {api.OpStore, 0}, {api.OpNew, 7}, {api.OpInit, 7}, {api.OpCast, 7}, {api.OpGet, 0}, {api.OpPut, 0}, {api.OpCall, 1}, {api.OpSend, 0}, {api.OpSend, 1}} {
		wantError(t, fmt.Sprint("a file of one method: ", c), alone(plainMethod(c...)), api.ErrCode, 0, 1)
	}
	wantOK(t, "given classes", alone(plainMethod(api.OpNew, 6, api.OpInit, 0, api.OpCast, 1)))
	wantOK(t, "itself", alone(plainMethod(api.OpCall, 0)))
}

func TestP6First(t *testing.T) {
	wantError(t, "what can't be read is told ahead of what may not be", holder(api.OpLoad, 9, api.OpReturn, 26).file(), api.ErrCode, 3, 3)
	wantError(t, "a missing n as well", holder(api.OpLoad, 9, api.OpReturn, api.OpJump).file(), api.ErrCode, 3, 3)
	wantError(t, "of two that can't be read the first", holder(api.OpReturn, 26, 27).file(), api.ErrCode, 3, 1)
	wantError(t, "of two that may not be the first", holder(api.OpReturn, api.OpGet, 9, api.OpLoad, 9).file(), api.ErrCode, 3, 1)
	p := holder(api.OpReturn)
	p.methods[0].code = []int{api.OpReturn, api.OpLoad, 0}
	p.methods[1].code = []int{99}
	wantError(t, "of two methods the first", p.file(), api.ErrCode, 0, 1)
}
