package stackmap_test

import (
	"fmt"
	"strings"
	"testing"

	"stackmap/api"
	"stackmap/stackmap"
)

// holdAgainstWords: Check, Strip and Prepare answer what the words give.
func holdAgainstWords(t *testing.T, file string) verdict {
	t.Helper()
	want, bare := byWords(file)
	e, which, at := stackmap.Check(file)
	if got := (verdict{e, which, at}); got != want {
		t.Errorf("Check(%q) = %v, want %v", file, got, want)
	}
	form := want.e
	if !ofForm(form) {
		form = api.OK
	}
	if s, e := stackmap.Strip(file); s != bare || e != form {
		t.Errorf("Strip(%q) = %q, %d, want %q, %d", file, s, e, bare, form)
	}
	full, wantE, wantWhich := preparedByWords(file, want)
	if s, e, which := stackmap.Prepare(file); s != full || e != wantE || which != wantWhich {
		t.Errorf("Prepare(%q) = %q, %d, %d, want %q, %d, %d", file, s, e, which, full, wantE, wantWhich)
	}
	return want
}

// sources: files to change a little.
func sources() []string {
	return []string{
		alone(plainMethod()),
		rich().file(),
		holder(api.OpReturn, api.OpSend, 1, api.OpCall, 0, api.OpJump, 0, api.OpPut, 2, api.OpCast, 10).file(),
		guarded([]handler{{0, 3, 7, 1}, {1, 8, 5, 9}}, []stackMap{{1, []pair{raw(1), ref(9)}, nil}, {7, []pair{nullType, topType}, []pair{raw(5), intType}}}),
		withMethods(ownMethod(9, 3, intType, ref(7)), ownMethod(7, 3, intType, ref(7)), ownMethod(8, 3, intType, ref(7)), ownMethod(10, 3, topType)),
		// Examples B and C with their maps.
		text(83, 77, 0, 1, 255, 0, 0, 0, 0, 1, 2, 19, 24, 3, 0, 2, 0, 25, 2, 0, 0, 1, 8, 5, 3, 0, 12, 18, 11, 3, 22, 0, 2, 3, 1, 0, 0, 18, 1, 0, 0),
		text(83, 77, 0, 1, 255, 0, 0, 1, 0, 0, 2, 9, 0, 6, 24, 10, 22, 4, 0, 255, 22, 1, 0, 4, 5, 2, 1, 5, 1, 3, 2),
	}
}

func TestP1EveryByteChanged(t *testing.T) {
	seen := map[api.Errno]int{}
	for _, file := range sources() {
		for i := range file {
			for b := 0; b < 256; b++ {
				v := holdAgainstWords(t, file[:i]+text(b)+file[i+1:])
				seen[v.e]++
			}
		}
	}
	for e := api.ErrForm; e <= api.ErrEnd; e++ {
		if seen[e] == 0 {
			t.Errorf("error %d never came", e)
		}
	}
}

func TestP1BytesAddedAndTaken(t *testing.T) {
	for _, file := range sources() {
		for i := range file {
			holdAgainstWords(t, file[:i]+file[i+1:])
			for _, b := range []int{0, 1, 2, 3, 4, 7, 15, 22, 26, 120, 121, 255} {
				holdAgainstWords(t, file[:i]+text(b)+file[i:])
			}
		}
	}
}

// Two changes at once: here it shows which of two errors is told. The steps come from a fixed rule, so that each run is the same.
func TestP1TwoBytesChanged(t *testing.T) {
	state := uint32(1)
	draw := func(below int) int {
		state = state*1664525 + 1013904223
		return int(state>>8) % below
	}
	for _, file := range sources() {
		for n := 0; n < 40000; n++ {
			b := []byte(file)
			for k := 0; k < 2; k++ {
				b[4+draw(len(b)-4)] = byte(draw(30))
			}
			holdAgainstWords(t, string(b))
		}
	}
}

// strange: strings that are nothing like a file, or that promise more than they hold.
func strange() []string {
	l := []string{"", "S", "SM", "MS", "\x00", strings.Repeat("\x00", 15000), strings.Repeat("\xff", 15000), strings.Repeat("S", 15001), strings.Repeat("\xc3\x28", 7500), "日本語"}
	for b := 0; b < 256; b++ {
		l = append(l, "SM"+strings.Repeat(text(b), 300), "SM\x00\x01"+strings.Repeat(text(b), 500))
	}
	return l
}

func TestP1Strange(t *testing.T) {
	numbers := []int{leastOfAll, -1, 0, 1, 3, 4, 119, 120, greatestOfAll}
	for _, file := range append(strange(), sources()...) {
		holdAgainstWords(t, file)
		for _, n := range numbers {
			a, b := api.Type{Kind: n, N: n}, api.Type{Kind: api.Ref, N: n}
			ok, e := stackmap.Fits(file, a, b)
			j, f := stackmap.Join(file, b, a)
			if e != f || e != api.OK && (ok || j != api.Type{}) {
				t.Errorf("Fits and Join of %.20q with %v and %v: %v, %d, %v, %d", file, a, b, ok, e, j, f)
			}
		}
	}
}

// The other calls end as well, whatever they are given.
func TestP1EveryCallEnds(t *testing.T) {
	for _, file := range append(strange(), sources()...) {
		if s, e, which := stackmap.Prepare(file); e != api.OK && s != "" || e == api.OK && which != 0 {
			t.Errorf("Prepare(%.20q) = %q, %d, %d", file, s, e, which)
		}
		for _, n := range []int{leastOfAll, -1, 0, 1, greatestOfAll} {
			o, e := stackmap.Run(file, api.Start{Entry: n, Inputs: []int{n, n}, Heap: n, Depth: n, Fuel: n})
			if e != api.OK && (len(o.Out) != 0 || o.Status != 0 || o.Value != 0 || o.Steps != 0) {
				t.Errorf("Run(%.20q) = %v, %d", file, o, e)
			}
		}
	}
}

// answers: what the calls say of a file, as one text.
func answers(file string) string {
	e, which, at := stackmap.Check(file)
	s, f := stackmap.Strip(file)
	ok, g := stackmap.Fits(file, typed(ref(8)), typed(ref(7)))
	j, h := stackmap.Join(file, typed(ref(8)), typed(ref(9)))
	full, i, w := stackmap.Prepare(file)
	return fmt.Sprintf("%d %d %d, %q %d, %v %d, %v %d, %q %d %d", e, which, at, s, f, ok, g, j, h, full, i, w)
}

func TestP2ArgumentsAlone(t *testing.T) {
	files := append(sources(), strange()[:20]...)
	files = append(files, withClasses(class{7, nil}), withClasses(class{0, nil}, class{7, nil}, class{7, nil}), withClasses(class{1, nil}, class{0, nil}, class{8, nil}))
	var first []string
	for _, file := range files {
		first = append(first, answers(file))
	}
	for i := range files {
		for j := range files {
			a, b := answers(files[i]), answers(files[j])
			if a != first[i] || b != first[j] {
				t.Fatalf("answers to file %d or %d have changed:\n%s\n%s", i, j, a, b)
			}
		}
	}
}

func TestP2Lists(t *testing.T) {
	// Example A: reads a number and gives back one more.
	file := text(83, 77, 0, 1, 255, 0, 0, 1, 0, 1, 2, 9, 24, 3, 0, 2, 0, 0, 1, 7, 22, 0, 0)
	room := []int{41, 7, -5, 1 << 40, -9}
	s := api.Start{Inputs: room[:2], Depth: 1, Fuel: 9}
	first, e := stackmap.Run(file, s)
	before := fmt.Sprint(first, e)
	spare := first.Out[:cap(first.Out)]
	for i := range spare {
		spare[i] = 99
	}
	second, f := stackmap.Run(file, s)
	if after := fmt.Sprint(second, f); after != before {
		t.Errorf("Run = %s, then %s", before, after)
	}
	if got := fmt.Sprint(room, s.Inputs); got != fmt.Sprint([]int{41, 7, -5, 1 << 40, -9}, []int{41, 7}) {
		t.Errorf("the list that was handed in is now %s", got)
	}
}
