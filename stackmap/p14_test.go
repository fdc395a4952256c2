package stackmap_test

import (
	"fmt"
	"slices"
	"testing"

	"stackmap/api"
)

func TestP14Const(t *testing.T) {
	for n := 0; n < 256; n++ {
		want := n
		if n > 127 {
			want = n - 256
		}
		wantRun(t, "Const", alone(gives(0, 1, 0, n, 22)), easy(), returned(want, 2))
	}
}

func TestP14Reckoning(t *testing.T) {
	least, greatest := api.LeastInt, api.GreatestInt
	sum := func(op int) string { return alone(gives(0, 2, 24, 24, op, 22)) }
	for _, c := range []struct{ op, x, y, z int }{
		{7, 2, 3, 5}, {7, greatest, 1, least}, {7, least, -1, greatest}, {7, least, least, 0}, {7, greatest, greatest, -2},
		{8, 2, 3, -1}, {8, 3, 2, 1}, {8, least, 1, greatest}, {8, 0, least, least}, {8, greatest, -1, least}, {8, -1, least, greatest},
		{9, -7, 6, -42}, {9, -7, -6, 42}, {9, least, -1, least}, {9, least, least, 0}, {9, greatest, greatest, 1}, {9, 65536, 32768, least}, {9, 46341, 46341, -2147479015}, {9, greatest, 2, -2},
		{10, 7, 2, 3}, {10, -7, 2, -3}, {10, 7, -2, -3}, {10, -7, -2, 3}, {10, 2, 7, 0}, {10, -1, 2, 0}, {10, least, -1, least}, {10, least, 1, least}, {10, least, 2, -1073741824}, {10, greatest, -1, -greatest}, {10, least, greatest, -1}, {10, greatest, least, 0}, {10, least, least, 1},
	} {
		wantRun(t, "reckoning", sum(c.op), easy(c.x, c.y), returned(c.z, 4))
	}
	edges := []int{least, least + 1, -65537, -65536, -46341, -3, -2, -1, 0, 1, 2, 3, 7, 46340, 46341, 65535, 65536, 1 << 30, greatest - 1, greatest}
	for op := 7; op <= 10; op++ {
		for _, x := range edges {
			for _, y := range edges {
				if op == 10 && y == 0 {
					wantRun(t, "by 0", sum(op), easy(x, y), uncaught(2, 3))
					continue
				}
				wantRun(t, "reckoning", sum(op), easy(x, y), returned(figured(op, x, y), 4))
			}
		}
	}
}

// What was reckoned is reckoned with again.
func TestP14ReckoningOn(t *testing.T) {
	// In, In, Mul, In, Add, In, Div, In, Sub, Return.
	file := alone(gives(0, 2, 24, 24, 9, 24, 7, 24, 10, 24, 8, 22))
	wantRun(t, "round and back", file, easy(65536, 32768, -1, -1, 1), returned(-api.GreatestInt-1, 10))
	wantRun(t, "small", file, easy(6, 7, 8, -4, 3), returned(-15, 10))
}

func TestP14Moves(t *testing.T) {
	// Each with In, In, In ahead: 1, 2, 3 lie on the stack; then Out as often as there is something.
	for _, c := range []struct {
		what string
		code []int
		out  []int
	}{
		{"nothing", nil, []int{3, 2, 1}},
		{"Pop", []int{4}, []int{2, 1}},
		{"Dup", []int{5}, []int{3, 3, 2, 1}},
		{"Swap", []int{6}, []int{2, 3, 1}},
		{"Swap twice", []int{6, 6}, []int{3, 2, 1}},
		{"Dup, Swap", []int{5, 6}, []int{3, 3, 2, 1}},
		{"Store 0", []int{3, 0}, []int{2, 1}},
		{"Store and Load", []int{3, 1, 3, 0, 2, 1, 2, 0, 2, 1}, []int{3, 2, 3, 1}},
		{"Load does not take", []int{3, 2, 2, 2, 2, 2}, []int{3, 3, 2, 1}},
		{"Store over", []int{3, 0, 3, 0, 2, 0}, []int{2, 1}},
		{"Const upon", []int{0, 9}, []int{9, 3, 2, 1}},
		{"Null upon and off", []int{1, 4}, []int{3, 2, 1}},
		{"Null, Swap, Store", []int{1, 6, 3, 0, 4, 2, 0}, []int{3, 2, 1}},
	} {
		code := slices.Concat([]int{24, 24, 24}, c.code, repeated(len(c.out), 25), []int{22})
		steps := len(places(code))
		wantRun(t, c.what, alone(method{class: 255, locals: 3, stack: 5, code: code}), easy(1, 2, 3), returned(0, steps, c.out...))
	}
	// Eight locals, and eight high.
	var code, want []int
	for n := 0; n < 8; n++ {
		code = append(code, 24, 3, n)
	}
	for n := 0; n < 8; n++ {
		code = append(code, 2, n)
		want = append(want, 8-n)
	}
	code = append(code, append(repeated(8, 25), 22)...)
	wantRun(t, "as much as there is room for", alone(method{class: 255, locals: 8, stack: 8, code: code}), easy(1, 2, 3, 4, 5, 6, 7, 8), returned(0, 33, want...))
}

func TestP14Ways(t *testing.T) {
	least, greatest := api.LeastInt, api.GreatestInt
	// What decides, then what goes to the place ahead of Const 1, Return, or on to Const 0, Return.
	way := func(ahead ...int) string {
		past := len(ahead) + 1 + 3
		return alone(gives(0, 3, append(ahead, past, 0, 0, 22, 0, 1, 22)...))
	}
	for _, n := range []int{least, -256, -1, 0, 1, 256, greatest} {
		want := 0
		if n == 0 {
			want = 1
		}
		wantRun(t, "Zero", way(24, 12), easy(n), returned(want, 4))
	}
	for i, x := range []int{least, -2, -1, 0, 1, 2, greatest} {
		for j, y := range []int{least, -2, -1, 0, 1, 2, greatest} {
			want := 0
			if i < j {
				want = 1
			}
			wantRun(t, fmt.Sprint(x, " less than ", y), way(24, 24, 13), easy(x, y), returned(want, 5))
		}
	}
	wantRun(t, "Nil of nothing", way(1, 14), easy(), returned(1, 4))
	wantRun(t, "Nil of an object", way(15, 0, 5, 16, 0, 14), easy(), returned(0, 6))
	wantRun(t, "Nil of nothing that was cast", way(1, 19, 3, 14), easy(), returned(1, 5))
	wantRun(t, "Jump", way(11), easy(), returned(1, 3))
	// Const 5, In, Zero 5; at 5: Return.
	wantRun(t, "Zero, what lies lower", alone(gives(0, 2, 0, 5, 24, 12, 5, 22)), easy(0), returned(5, 4))
	// Jump 5; at 2: Const 3, Return; at 5: Jump 2.
	wantRun(t, "forth and back", alone(gives(0, 1, 11, 5, 0, 3, 22, 11, 2)), easy(), returned(3, 4))
}

// pedigree: 7 below 0, 8 below 0, 9 below 7, 10 below 9, 11 below 8, 12 below 1. The fields, by their numbers: 0 and 1 of 7, 2 of 8, 3 of 9, 4 and 5 of 10, 6 of 11, 7 and 8 of 12.
func pedigree(m ...method) program {
	i := intType
	return program{[]class{{0, []pair{i, i}}, {0, []pair{i}}, {7, []pair{i}}, {9, []pair{i, i}}, {8, []pair{i}}, {1, []pair{i, i}}}, m}
}

// made: New, Dup, its fields set to what In reads, Init.
func (p program) made(class int) []int {
	return slices.Concat([]int{15, class, 5}, repeated(len(p.allFields(class)), 24), []int{16, class})
}

func TestP14Fields(t *testing.T) {
	numbers := map[int][]int{7: {0, 1}, 8: {2}, 9: {0, 1, 3}, 10: {0, 1, 3, 4, 5}, 11: {2, 6}, 12: {7, 8}}
	for class, fields := range numbers {
		p := pedigree()
		ahead := append(p.made(class), 3, 0)
		var values, reads []int
		for i, n := range fields {
			values = append(values, 10+i)
			reads = append(reads, 2, 0, 17, n, 25)
		}
		code := slices.Concat(ahead, reads, []int{22})
		p.methods = []method{{class: 255, locals: 1, stack: 8, code: code}}
		wantRun(t, fmt.Sprint("the fields of ", class), p.file(), easy(values...), returned(0, len(places(code)), values...))
		for i, n := range fields {
			code := slices.Concat(ahead, []int{2, 0, 24, 18, n}, reads, []int{22})
			changed := slices.Clone(values)
			changed[i] = -1
			p.methods[0].code = code
			wantRun(t, fmt.Sprint("Put ", n, " of ", class), p.file(), easy(append(values, -1)...), returned(0, len(places(code)), changed...))
		}
	}
}

// A field may hold a reference: to nothing, to another object, or to the object itself.
func TestP14FieldsWithReferences(t *testing.T) {
	p := program{classes: []class{{0, []pair{ref(7), intType}}}}
	// New 7, Dup, Store 0 (not set yet), Null, In, Init 7; New 7, Dup, Load 0, In, Init 7, Store 1.
	ahead := []int{15, 7, 5, 3, 0, 1, 24, 16, 7, 15, 7, 5, 2, 0, 24, 16, 7, 3, 1}
	for _, c := range []struct {
		what string
		code []int
		want api.Outcome
	}{
		{"the other one's number", []int{2, 1, 17, 0, 17, 1, 22}, returned(5, 16)},
		{"its own", []int{2, 1, 17, 1, 22}, returned(6, 15)},
		{"the way ends", []int{2, 1, 17, 0, 17, 0, 17, 1, 22}, uncaught(3, 16)},
		{"a ring", []int{2, 0, 2, 1, 18, 0, 2, 0, 17, 0, 17, 0, 17, 0, 17, 1, 22}, returned(6, 21)},
		{"into the one through the other", []int{2, 1, 17, 0, 0, 9, 18, 1, 2, 0, 17, 1, 22}, returned(9, 19)},
		{"one into itself", []int{2, 0, 2, 0, 18, 0, 2, 0, 17, 0, 17, 0, 17, 1, 22}, returned(5, 20)},
	} {
		p.methods = []method{gives(2, 4, slices.Concat(ahead, c.code)...)}
		wantRun(t, c.what, p.file(), easy(5, 6), c.want)
	}
}

// A New in a loop makes another object each time.
func TestP14NewEachTime(t *testing.T) {
	p := program{classes: []class{{0, []pair{ref(7), intType}}}}
	// Null, Cast 7, Store 0; at 5: In, Dup, Store 1, Zero 24, New 7, Dup, Load 0, Load 1, Init 7, Store 0, Jump 5; at 24: Load 0, Nil 41, Load 0, Get 1, Out, Load 0, Get 0, Store 0, Jump 24; at 41: Return.
	p.methods = []method{{class: 255, locals: 2, stack: 4, code: []int{
		1, 19, 7, 3, 0,
		24, 5, 3, 1, 12, 24,
		15, 7, 5, 2, 0, 2, 1, 16, 7, 3, 0, 11, 5,
		2, 0, 14, 41, 2, 0, 17, 1, 25, 2, 0, 17, 0, 3, 0, 11, 24,
		22}}}
	wantRun(t, "a list", p.file(), easy(3, 1, 4, 1, 5), returned(0, 3+5*11+4+5*9+2+1, 5, 1, 4, 1, 3))
}

func TestP14Call(t *testing.T) {
	i := intType
	// Method 1 writes its four parameters.
	writes := method{class: 255, params: []pair{i, i, i, i}, locals: 4, stack: 1, code: []int{2, 0, 25, 2, 1, 25, 2, 2, 25, 2, 3, 25, 22}}
	file := program{nil, []method{{class: 255, stack: 4, code: []int{24, 24, 24, 24, 20, 1, 22}}, writes}}.file()
	wantRun(t, "the parameters in their order", file, easy(1, 2, 3, 4), returned(0, 15, 1, 2, 3, 4))

	// Method 0 keeps 10 and 20 in its locals, has 7 and 8 on its stack; method 1 changes its own locals and leaves things on its stack.
	file = program{nil, []method{
		gives(2, 4, 0, 10, 3, 0, 0, 20, 3, 1, 0, 7, 0, 8, 0, 1, 20, 1, 25, 25, 25, 2, 0, 25, 2, 1, 22),
		{class: 255, params: []pair{i}, result: i, locals: 2, stack: 5, code: []int{0, 50, 3, 1, 0, 60, 3, 0, 0, 70, 1, 2, 1, 2, 0, 22}},
	}}.file()
	wantRun(t, "each call has its own", file, easy(), returned(20, 24, 60, 8, 7, 10))

	file = program{nil, []method{{class: 255, stack: 1, code: []int{24, 20, 1, 25, 22}}, plainMethod()}}.file()
	wantRun(t, "nothing is given back", file, easy(5), returned(0, 5, 5))
	// Method 2 makes an object and gives it back.
	file = program{[]class{{0, []pair{i}}}, []method{gives(0, 1, 20, 2, 17, 0, 22), plainMethod(), {class: 255, result: ref(7), stack: 3, code: []int{15, 7, 5, 24, 16, 7, 22}}}}.file()
	wantRun(t, "an object is given back", file, easy(5), returned(5, 8))
	// Call 2, Nil 7, Const 1, Return; at 7: Const 2, Return.
	file = program{nil, []method{gives(0, 1, 20, 2, 14, 7, 0, 1, 22, 0, 2, 22), plainMethod(), {class: 255, result: ref(1), stack: 1, code: []int{1, 22}}}}.file()
	wantRun(t, "the reference to nothing is given back", file, easy(), returned(2, 6))
}

// Method 1: n times itself of n - 1, or 1.
func TestP14CallOfItself(t *testing.T) {
	// Load 0, Zero 15, Load 0, Load 0, Const 1, Sub, Call 1, Mul, Return; at 15: Const 1, Return.
	times := method{class: 255, params: []pair{intType}, result: intType, locals: 1, stack: 3, code: []int{2, 0, 12, 15, 2, 0, 2, 0, 0, 1, 8, 20, 1, 9, 22, 0, 1, 22}}
	file := program{nil, []method{gives(0, 1, 24, 20, 1, 22), times}}.file()
	for n, want := range []int{1, 1, 2, 6, 24, 120, 720, 5040, 40320, 362880, 3628800} {
		wantRun(t, "n times itself of n - 1", file, easy(n), returned(want, 3+9*n+4))
	}
	wantRun(t, "one call too many", file, easy(11), uncaught(6, 2+11*7))
}

// Two methods that call each other; In and Out are the run's, not a call's.
func TestP14CallToAndFro(t *testing.T) {
	// In, Dup, Out, Zero 8, Call of the other, Return; at 8: Const, Return.
	other := func(n, number int) method { return gives(0, 2, 24, 5, 25, 12, 8, 20, n, 22, 0, number, 22) }
	file := program{nil, []method{gives(0, 1, 20, 1, 22), other(2, 100), other(1, 50)}}.file()
	wantRun(t, "ended by the one", file, easy(3, 2, 0), returned(100, 1+5+5+4+2+2+1, 3, 2, 0))
	wantRun(t, "ended by the other", file, easy(9), returned(50, 1+5+4+2+1+1, 9, 0))
}

// tells: a method of a class with that name, that gives back a number.
func tells(class, name, number int, params ...pair) method {
	return method{class: class, name: name, params: params, result: intType, locals: 1 + len(params), stack: 1, code: []int{0, number, 22}}
}

// Which methods there are, by their classes; what an object of each class answers.
func TestP14Send(t *testing.T) {
	// 7 below 0; 8 below 7; 9 below 8; 10 below 7; 11 below 0; 12 below 9.
	tree := []class{{0, nil}, {7, nil}, {8, nil}, {7, nil}, {0, nil}, {9, nil}}
	nearest := map[int][]int{7: {7}, 8: {8, 7}, 9: {9, 8, 7}, 10: {10, 7}, 12: {12, 9, 8, 7}}
	for set := 0; set < 32; set++ {
		var own []int
		for i, class := range []int{7, 8, 9, 10, 12} {
			if set>>i&1 == 1 {
				own = append(own, class)
			}
		}
		if set%3 == 1 {
			slices.Reverse(own)
		}
		if len(own) > 4 {
			own = own[:4]
		}
		// Ahead of them stand the one that sends and one with the same name in a class beside these.
		methods := []method{{}, tells(11, 5, 111)}
		for _, class := range own {
			methods = append(methods, tells(class, 5, 10*class))
		}
		for is, way := range nearest {
			at := slices.IndexFunc(way, func(class int) bool { return slices.Contains(own, class) })
			for i, class := range own {
				if !slices.Contains(way, class) {
					continue
				}
				want := int(int8(10 * way[at]))
				methods[0] = gives(0, 2, 15, is, 5, 16, is, 21, 2+i, 22)
				wantRun(t, fmt.Sprintf("methods of %v, sent by that of %d to %d", own, class, is), program{tree, methods}.file(), easy(), returned(want, 7))
			}
		}
	}
}

// It is the name that counts, and the object's class, not what the code knows of it.
func TestP14SendByName(t *testing.T) {
	tree := []class{{0, nil}, {7, nil}, {8, nil}}
	for name := 0; name < 3; name++ {
		methods := []method{{}, tells(7, name, 1), tells(8, 100, 2), tells(9, name, 3), tells(8, name+1, 4), {class: 255, result: intType, stack: 1, code: []int{0, 5, 22}}}
		for class, want := range map[int]int{7: 1, 8: 1, 9: 3} {
			// New, Dup, Init, Cast 0, Cast 7, Send 1, Return.
			methods[0] = gives(0, 2, 15, class, 5, 16, class, 19, 0, 19, 7, 21, 1, 22)
			wantRun(t, fmt.Sprint("name ", name, " of ", class), program{tree, methods}.file(), easy(), returned(want, 9))
		}
	}
	// The name 255, and a class that is 255 only as no class.
	methods := []method{gives(0, 2, 15, 8, 5, 16, 8, 21, 1, 22), tells(7, 255, 1), tells(8, 255, 2)}
	wantRun(t, "name 255", program{tree, methods}.file(), easy(), returned(2, 7))
}

// Local 0 is the object, behind it are the parameters, even where the method of another class answers.
func TestP14SendLocals(t *testing.T) {
	tree := []class{{0, []pair{intType}}, {7, []pair{intType}}}
	params := []pair{intType, ref(7), intType}
	// Load 1, Out, Load 2, Get 0, Out, Load 3, Out, Load 0, Get n, Return.
	says := func(class, n int) method {
		return method{class: class, name: 1, params: params, result: intType, locals: 5, stack: 1, code: []int{2, 1, 25, 2, 2, 17, 0, 25, 2, 3, 25, 2, 0, 17, n, 22}}
	}
	// New 8, Dup, In, In, Init 8, Store 0; Load 0, In, Load 0, In, Send 1, Return.
	sends := gives(1, 5, 15, 8, 5, 24, 24, 16, 8, 3, 0, 2, 0, 24, 2, 0, 24, 21, 1, 22)
	wantRun(t, "its own method", program{tree, []method{sends, says(7, 0), says(8, 1)}}.file(), easy(10, 20, 30, 40), returned(20, 22, 30, 10, 40))
	wantRun(t, "the one above", program{tree, []method{sends, says(7, 0)}}.file(), easy(10, 20, 30, 40), returned(10, 22, 30, 10, 40))
	// The method that is sent to changes its object; it does not change the sender's locals.
	change := method{class: 7, locals: 2, stack: 2, code: []int{2, 0, 0, 99, 18, 0, 1, 3, 0, 22}}
	wantRun(t, "the object itself", program{tree, []method{gives(1, 3, 15, 7, 5, 24, 16, 7, 3, 0, 2, 0, 21, 1, 2, 0, 17, 0, 22), change}}.file(), easy(1), returned(99, 16))
}

func TestP14Return(t *testing.T) {
	for _, c := range []struct {
		what     string
		result   pair
		code     []int
		want     api.Outcome
		handlers []handler
	}{
		{"a number", intType, []int{24, 22}, returned(41, 2), nil},
		{"the top one", intType, []int{24, 24, 24, 22}, returned(43, 4), nil},
		{"nothing", topType, []int{24, 22}, returned(0, 2), nil},
		{"nothing from an empty stack", topType, []int{22}, returned(0, 1), nil},
		{"the reference to nothing", ref(0), []int{1, 22}, returned(0, 2), nil},
		{"an object", ref(0), []int{24, 15, 3, 5, 16, 3, 22}, returned(0, 5), nil},
		{"an object that was thrown", ref(1), []int{1, 23, 22}, returned(0, 3), []handler{{0, 2, 2, 1}}},
	} {
		m := method{class: 255, result: c.result, stack: 3, code: c.code, handlers: c.handlers}
		wantRun(t, c.what, alone(m), easy(41, 42, 43), c.want)
	}
}

func TestP14InAndOut(t *testing.T) {
	code := slices.Concat(repeated(4, 24), repeated(4, 25), []int{24, 25, 22})
	file := alone(method{class: 255, stack: 4, code: code})
	wantRun(t, "no input", file, easy(), returned(0, 11, 0, 0, 0, 0, 0))
	wantRun(t, "too few", file, easy(1, 2), returned(0, 11, 0, 0, 2, 1, 0))
	wantRun(t, "just enough", file, easy(1, 2, 3, 4, 5), returned(0, 11, 4, 3, 2, 1, 5))
	wantRun(t, "too many", file, easy(1, 2, 3, 4, 5, 6, 7), returned(0, 11, 4, 3, 2, 1, 5))
	edges := []int{api.LeastInt, api.GreatestInt, -1, 0, 1}
	wantRun(t, "edges", file, easy(edges...), returned(0, 11, 0, -1, api.GreatestInt, api.LeastInt, 1))
	all := []int{20, 19, 18, 17, 16, 15, 14, 13, 12, 11, 10, 9, 8, 7, 6, 5, 4, 3, 2, 1}
	// In, Dup, Out, Zero 7, Jump 0; at 7: Return.
	echo := alone(method{class: 255, stack: 2, code: []int{24, 5, 25, 12, 7, 11, 0, 22}})
	wantRun(t, "twenty", echo, easy(all...), returned(0, 20*5+4+1, append(all, 0)...))
}
