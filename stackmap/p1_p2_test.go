package stackmap_test

import (
	"fmt"
	"slices"
	"strings"
	"testing"

	"stackmap/api"
	"stackmap/stackmap"
)

// holdAgainstWords: Check, Strip, Prepare and Run answer what the words give. What Check refuses is run from a start that may not be.
func holdAgainstWords(t *testing.T, file string) verdict {
	t.Helper()
	want, bare := byWords(file)
	e, which, at := stackmap.Check(file)
	if got := (verdict{e, which, at}); got != want {
		t.Errorf("Check(%q) = %v, want %v", file, got, want)
	}
	form := want.e
	if !ofForm(form) {
		form = api.OK
	}
	if s, e := stackmap.Strip(file); s != bare || e != form {
		t.Errorf("Strip(%q) = %q, %d, want %q, %d", file, s, e, bare, form)
	}
	full, wantE, wantWhich := preparedByWords(file, want)
	if s, e, which := stackmap.Prepare(file); s != full || e != wantE || which != wantWhich {
		t.Errorf("Prepare(%q) = %q, %d, %d, want %q, %d, %d", file, s, e, which, full, wantE, wantWhich)
	}
	if want.e != api.OK {
		wantRefused(t, "what Check refuses", file, api.Start{Entry: -1, Inputs: []int{greatestOfAll}}, want.e)
		return want
	}
	wantSame(t, file, want, api.Start{Inputs: []int{3, 0, 5, -1, api.LeastInt}, Heap: 5, Depth: 4, Fuel: 60}, map[string]int{})
	return want
}

// sources: files to change a little.
func sources() []string {
	return []string{
		alone(plainMethod()),
		rich().file(),
		holder(api.OpReturn, api.OpSend, 1, api.OpCall, 0, api.OpJump, 0, api.OpPut, 2, api.OpCast, 10).file(),
		guarded([]handler{{0, 3, 7, 1}, {1, 8, 5, 9}}, []stackMap{{1, []pair{raw(1), ref(9)}, nil}, {7, []pair{nullType, topType}, []pair{raw(5), intType}}}),
		withMethods(ownMethod(9, 3, intType, ref(7)), ownMethod(7, 3, intType, ref(7)), ownMethod(8, 3, intType, ref(7)), ownMethod(10, 3, topType)),
		// Examples B and C with their maps.
		text(83, 77, 0, 1, 255, 0, 0, 0, 0, 1, 2, 19, 24, 3, 0, 2, 0, 25, 2, 0, 0, 1, 8, 5, 3, 0, 12, 18, 11, 3, 22, 0, 2, 3, 1, 0, 0, 18, 1, 0, 0),
		text(83, 77, 0, 1, 255, 0, 0, 1, 0, 0, 2, 9, 0, 6, 24, 10, 22, 4, 0, 255, 22, 1, 0, 4, 5, 2, 1, 5, 1, 3, 2),
	}
}

func TestP1EveryByteChanged(t *testing.T) {
	seen := map[api.Errno]int{}
	for _, file := range sources() {
		for i := range file {
			for b := 0; b < 256; b++ {
				v := holdAgainstWords(t, file[:i]+text(b)+file[i+1:])
				seen[v.e]++
			}
		}
	}
	for e := api.ErrForm; e <= api.ErrEnd; e++ {
		if seen[e] == 0 {
			t.Errorf("error %d never came", e)
		}
	}
}

func TestP1BytesAddedAndTaken(t *testing.T) {
	for _, file := range sources() {
		for i := range file {
			holdAgainstWords(t, file[:i]+file[i+1:])
			for _, b := range []int{0, 1, 2, 3, 4, 7, 15, 22, 26, 120, 121, 255} {
				holdAgainstWords(t, file[:i]+text(b)+file[i:])
			}
		}
	}
}

// Two changes at once: here it shows which of two errors is told. The steps come from a fixed rule, so that each run is the same.
func TestP1TwoBytesChanged(t *testing.T) {
	state := uint32(1)
	draw := func(below int) int {
		state = state*1664525 + 1013904223
		return int(state>>8) % below
	}
	for _, file := range sources() {
		for n := 0; n < 40000; n++ {
			b := []byte(file)
			for k := 0; k < 2; k++ {
				b[4+draw(len(b)-4)] = byte(draw(30))
			}
			holdAgainstWords(t, string(b))
		}
	}
}

// strange: strings that are nothing like a file, or that promise more than they hold.
func strange() []string {
	l := []string{"", "S", "SM", "MS", "\x00", strings.Repeat("\x00", 15000), strings.Repeat("\xff", 15000), strings.Repeat("S", 15001), strings.Repeat("\xc3\x28", 7500), "日本語"}
	for b := 0; b < 256; b++ {
		l = append(l, "SM"+strings.Repeat(text(b), 300), "SM\x00\x01"+strings.Repeat(text(b), 500))
	}
	return l
}

func TestP1Strange(t *testing.T) {
	numbers := []int{leastOfAll, -1, 0, 1, 3, 4, 119, 120, greatestOfAll}
	for _, file := range append(strange(), sources()...) {
		holdAgainstWords(t, file)
		for _, n := range numbers {
			a, b := api.Type{Kind: n, N: n}, api.Type{Kind: api.Ref, N: n}
			ok, e := stackmap.Fits(file, a, b)
			j, f := stackmap.Join(file, b, a)
			if e != f || e != api.OK && (ok || j != api.Type{}) {
				t.Errorf("Fits and Join of %.20q with %v and %v: %v, %d, %v, %d", file, a, b, ok, e, j, f)
			}
		}
	}
}

// The other calls end as well, whatever they are given.
func TestP1EveryCallEnds(t *testing.T) {
	for _, file := range append(strange(), sources()...) {
		if s, e, which := stackmap.Prepare(file); e != api.OK && s != "" || e == api.OK && which != 0 {
			t.Errorf("Prepare(%.20q) = %q, %d, %d", file, s, e, which)
		}
		for _, n := range []int{leastOfAll, -1, 0, 1, greatestOfAll} {
			for _, s := range []api.Start{{Entry: n, Inputs: []int{n, n}, Heap: n, Depth: n, Fuel: n}, {Inputs: []int{n}, Heap: n & 15, Depth: 1 + n&3, Fuel: n & 2047}} {
				o, e := stackmap.Run(file, s)
				if e != api.OK && (len(o.Out) != 0 || o.Status != 0 || o.Value != 0 || o.Steps != 0) {
					t.Errorf("Run(%.20q, %v) = %v, %d", file, s, o, e)
				}
			}
		}
	}
}

// answers: what the calls say of a file, as one text.
func answers(file string) string {
	e, which, at := stackmap.Check(file)
	s, f := stackmap.Strip(file)
	ok, g := stackmap.Fits(file, typed(ref(8)), typed(ref(7)))
	j, h := stackmap.Join(file, typed(ref(8)), typed(ref(9)))
	full, i, w := stackmap.Prepare(file)
	o, k := stackmap.Run(file, easy(3, 1, 0))
	p, l := stackmap.Run(full, easy(0, 7))
	return fmt.Sprintf("%d %d %d, %q %d, %v %d, %v %d, %q %d %d, %v %d, %v %d", e, which, at, s, f, ok, g, j, h, full, i, w, o, k, p, l)
}

func TestP2ArgumentsAlone(t *testing.T) {
	files := append(sources(), strange()[:20]...)
	files = append(files, exampleA, exampleD, doors(), winding(), passing(nil, nil, nil, nil))
	files = append(files, withClasses(class{7, nil}), withClasses(class{0, nil}, class{7, nil}, class{7, nil}), withClasses(class{1, nil}, class{0, nil}, class{8, nil}))
	var first []string
	for _, file := range files {
		first = append(first, answers(file))
	}
	for i := range files {
		for j := range files {
			a, b := answers(files[i]), answers(files[j])
			if a != first[i] || b != first[j] {
				t.Fatalf("answers to file %d or %d have changed:\n%s\n%s", i, j, a, b)
			}
		}
	}
}

// echo: reads n numbers and writes them.
func echo(n int) string {
	return bare(1, append(slices.Repeat([]int{api.OpIn, api.OpOut}, n), api.OpReturn), nil)
}

// Neither the list that is handed in nor its spare room is written into, and what is done to it later changes no answer.
func TestP2ListsHandedIn(t *testing.T) {
	room := []int{41, 7, -5, 1 << 40, -9}
	files := []string{exampleA, echo(1), echo(5), doors(), ready(t, "B", exampleB+text(0)), "SM"}
	for _, file := range files {
		for n := range room {
			s := easy(room[:n]...)
			stackmap.Run(file, s)
			s.Fuel = 1
			stackmap.Run(file, s)
			if got := fmt.Sprint(room, len(s.Inputs)); got != fmt.Sprint([]int{41, 7, -5, 1 << 40, -9}, n) {
				t.Fatalf("the list that was handed in is now %s", got)
			}
		}
	}
	inputs := []int{1, 2, 3}
	first, _ := stackmap.Run(echo(3), easy(inputs...))
	for i := range inputs {
		inputs[i] = 77
	}
	if fmt.Sprint(first.Out) != "[1 2 3]" {
		t.Errorf("what was read before is now %v", first.Out)
	}
}

// The list that comes out is its owner's, with its spare room: nothing else is changed by what is written into it.
func TestP2ListsThatComeOut(t *testing.T) {
	inputs := []int{1, 2, 3, 4, 5}
	var all []api.Outcome
	for n := 0; n <= 5; n++ {
		for k := 0; k < 2; k++ {
			o, _ := stackmap.Run(echo(n), easy(inputs...))
			all = append(all, o)
		}
	}
	for i, o := range all {
		if fmt.Sprint(o.Out) != fmt.Sprint(inputs[:i/2]) {
			t.Errorf("list %d has become %v", i, o.Out)
		}
		spare := o.Out[:cap(o.Out)]
		for k := range spare {
			spare[k] = 99
		}
	}
	for n := 0; n <= 5; n++ {
		wantRun(t, "afterwards", echo(n), easy(inputs...), returned(0, 2*n+1, inputs[:n]...))
	}
	if fmt.Sprint(inputs) != "[1 2 3 4 5]" {
		t.Errorf("the list that was handed in is now %v", inputs)
	}
}
