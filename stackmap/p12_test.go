package stackmap_test

import (
	"fmt"
	"slices"
	"testing"

	"stackmap/api"
	"stackmap/stackmap"
)

// prepared: the least maps of a method that has no class; or none, if there are no maps at all.
type prepared struct {
	what   string
	m      method
	least  []stackMap
	isNone bool
}

func least(what string, m method, maps ...stackMap) prepared { return prepared{what, m, maps, false} }
func noMaps(what string, m method) prepared                  { return prepared{what, m, nil, true} }

// family: 7 below 0 with a field, 8 and 9 below 7, 10 below 8.
func family(m ...method) program {
	return program{[]class{{0, []pair{intType}}, {7, nil}, {7, nil}, {8, nil}}, m}
}

// open: a method that gives nothing back.
func open(locals, stack int, code []int, handlers ...handler) method {
	return method{class: api.NoClass, locals: locals, stack: stack, code: code, handlers: handlers}
}

// wantPrepared: the method is prepared in just that way, as it is and between others, whatever maps it has.
func wantPrepared(t *testing.T, list []prepared) {
	t.Helper()
	for _, c := range list {
		if c.isNone {
			wantNone(t, c.what, family(c.m).file(), 0)
			wantNone(t, c.what+", between others", family(plainMethod(), c.m, c.m, plainMethod()).file(), 1)
			continue
		}
		full := c.m
		full.maps = c.least
		wantFull(t, c.what, family(c.m).file(), family(full).file())
		wantFull(t, c.what+", between others", family(plainMethod(), c.m, plainMethod(), full).file(), family(plainMethod(), full, plainMethod(), full).file())
		other := full
		other.maps = nil
		for _, at := range places(c.m.code) {
			other.maps = append(other.maps, stackMap{at, repeated(c.m.locals, ref(at%10)), repeated(min(c.m.stack, at%3), nullType)})
		}
		wantFull(t, c.what+", with other maps", family(other).file(), family(full).file())
	}
}

// wantFull: Prepare answers that file, Check has nothing against it, and it stays as it is.
func wantFull(t *testing.T, what, file, full string) {
	t.Helper()
	for _, f := range []string{file, full} {
		if s, e, which := stackmap.Prepare(f); s != full || e != api.OK || which != 0 {
			t.Errorf("%s: Prepare(%q) = %q, %d, %d, want %q", what, f, s, e, which, full)
		}
	}
	wantOK(t, what, full)
}

func wantNone(t *testing.T, what, file string, which int) {
	t.Helper()
	if s, e, gotWhich := stackmap.Prepare(file); s != "" || e != api.ErrType || gotWhich != which {
		t.Errorf("%s: Prepare(%q) = %q, %d, %d, want ErrType, %d", what, file, s, e, gotWhich, which)
	}
}

// Where a map is written, and where none is.
func TestP12Places(t *testing.T) {
	wantPrepared(t, []prepared{
		least("nothing goes anywhere", open(1, 1, []int{24, 25, 22})),
		least("Jump to the next", open(1, 0, []int{11, 2, 22}), at(2, topType)),
		least("Jump over what nothing goes to", open(1, 0, []int{11, 3, 4, 22}), at(3, topType)),
		least("Jump to itself", open(1, 0, []int{11, 0}), at(0, topType)),
		least("Jump to place 0", open(1, 1, []int{24, 4, 11, 0}), at(0, topType)),
		least("jumps that nothing goes to", open(1, 0, []int{22, 11, 0, 12, 1, 25}), nil...),
		least("a jump that nothing goes to, to a place that something goes to", open(1, 0, []int{11, 4, 11, 5, 22, 22}), at(4, topType)),
		least("two to one place", open(1, 1, []int{24, 12, 6, 24, 12, 6, 22}), at(6, topType)),
		least("places in their order", open(1, 1, []int{11, 5, 22, 11, 2, 11, 3}), at(2, topType), at(3, topType), at(5, topType)),
		least("two ways, one of them on", open(1, 1, []int{24, 12, 5, 24, 25, 22}), at(5, topType)),
		least("both ways to one place", open(1, 1, []int{24, 12, 3, 22}), at(3, topType)),
		least("Less", open(1, 2, []int{24, 24, 13, 5, 22, 22}), at(5, topType)),
		least("Nil", open(1, 2, []int{1, 14, 4, 22, 22}), at(4, topType)),
		least("of two maps that are gone through in turn", open(1, 1, []int{24, 3, 0, 11, 7, 1, 23, 11, 5}), at(5, intType), at(7, intType)),
		least("no locals", open(0, 1, []int{24, 11, 3, 25, 22}), stackMap{3, nil, []pair{intType}}),
	})
}

// What joins at a place: the frame behind an instruction, type by type.
func TestP12Joined(t *testing.T) {
	// In, Zero 10, Null, Cast a, Store 0, Jump 15; at 10: Null, Cast b, Store 0; at 15: Return.
	two := func(a, b int) method {
		return open(1, 1, []int{24, 12, 10, 1, 19, a, 3, 0, 11, 15, 1, 19, b, 3, 0, 22})
	}
	// In, Null, Cast a, Swap, Zero 10, Pop, Null, Cast b; at 10: Return.
	high := func(a, b int) method {
		return open(1, 2, []int{1, 19, a, 24, 12, 10, 4, 1, 19, b, 22})
	}
	p := family()
	for a := 0; a <= 10; a++ {
		for b := 0; b <= 10; b++ {
			j := p.joined(p.types(method{}), ref(a), ref(b))
			wantPrepared(t, []prepared{
				least(fmt.Sprint("locals of ", a, " and ", b), two(a, b), at(10, topType), at(15, j)),
				least(fmt.Sprint("on the stack ", a, " and ", b), high(a, b), at(10, topType, j)),
			})
		}
	}
	wantPrepared(t, []prepared{
		least("8 and 9", two(8, 9), at(10, topType), at(15, ref(7))),
		least("10 and 9", two(10, 9), at(10, topType), at(15, ref(7))),
		least("10 and 7", two(10, 7), at(10, topType), at(15, ref(7))),
		least("2 and 3", two(2, 3), at(10, topType), at(15, ref(1))),
		least("2 and 9", two(2, 9), at(10, topType), at(15, ref(0))),
		least("Null and Ref", open(1, 1, []int{1, 3, 0, 24, 12, 11, 1, 19, 8, 3, 0, 22}), at(11, ref(8))),
		least("Ref and Null", open(1, 1, []int{1, 19, 8, 3, 0, 24, 12, 11, 1, 3, 0, 22}), at(11, ref(8))),
		least("Int and Null", open(1, 1, []int{1, 3, 0, 24, 12, 9, 24, 3, 0, 22}), at(9, topType)),
		least("Int and Null, needed as Int", open(1, 1, []int{24, 3, 0, 11, 0}), at(0, topType)),
		noMaps("Int and Null, loaded", open(1, 1, []int{1, 3, 0, 24, 12, 9, 24, 3, 0, 2, 0, 22})),
		noMaps("two classes, a field wanted", open(1, 1, append(two(2, 9).code[:15:15], 2, 0, 17, 0, 22))),
		least("two classes, their common field wanted", open(1, 1, append(two(8, 9).code[:15:15], 2, 0, 17, 0, 25, 22)), at(10, topType), at(15, ref(7))),
		least("the frame behind, not the one ahead", open(1, 2, []int{1, 24, 12, 4, 22}), at(4, topType, nullType)),
	})
}

// What comes round a loop raises what stands at its head, and so what follows from that.
func TestP12Loops(t *testing.T) {
	// Null, Store 0; at 3: In, Zero 13, Null, Cast 8, Store 0, Jump 3; at 13: Return.
	wantPrepared(t, []prepared{
		least("Null becomes Ref", open(1, 1, []int{1, 3, 0, 24, 12, 13, 1, 19, 8, 3, 0, 11, 3, 22}), at(3, ref(8)), at(13, ref(8))),
		// At 5: Load 0, Get 0, Zero 18, Null, Cast c, Store 0, Jump 5; at 18: Return.
		noMaps("a rule that held at first", open(1, 1, []int{1, 19, 7, 3, 0, 2, 0, 17, 0, 12, 18, 1, 19, 0, 3, 0, 11, 5, 22})),
		least("a rule that goes on to hold", open(1, 1, []int{1, 19, 8, 3, 0, 2, 0, 17, 0, 12, 18, 1, 19, 9, 3, 0, 11, 5, 22}), at(5, ref(7)), at(18, ref(7))),
		noMaps("higher each time", open(0, 8, []int{24, 11, 0})),
		noMaps("lower each time", open(0, 8, []int{24, 24, 4, 11, 2})),
		noMaps("two heights at the place behind a jump", open(0, 2, []int{24, 12, 4, 24, 22})),
		noMaps("two heights, from two jumps", open(0, 2, []int{24, 12, 6, 24, 11, 6, 22})),
		noMaps("two heights at place 0", open(0, 2, []int{24, 24, 12, 0, 22})),
		least("a local that is a number, then not", open(2, 1, []int{24, 3, 1, 24, 12, 9, 1, 3, 1, 11, 3}), stackMap{3, []pair{topType, topType}, nil}, stackMap{9, []pair{topType, topType}, nil}),
	})
}

// Each round of the loop carries a type one local further, and within it local 0 may become a Ref of a higher class: many rounds.
func TestP12ManyRounds(t *testing.T) {
	m := open(8, 1, nil)
	for n := 0; n < 8; n++ {
		m.code = append(m.code, 1, 3, n)
	}
	head := len(m.code)
	for n := 7; n > 0; n-- {
		m.code = append(m.code, 2, n-1, 3, n)
	}
	for class := 12; class >= 7; class-- {
		behind := len(m.code) + 8
		m.code = append(m.code, 24, 12, behind, 1, 19, class, 3, 0)
	}
	m.code = append(m.code, 11, head)
	p := program{[]class{{2, nil}, {7, nil}, {8, nil}, {9, nil}, {10, nil}, {11, nil}}, []method{m}}
	holdAgainstWords(t, p.file())
	s, _, _ := stackmap.Prepare(p.file())
	full, _ := parseByWords(s)
	if got, want := fmt.Sprint(full.methods[0].maps[0]), fmt.Sprint(stackMap{head, repeated(8, ref(7)), nil}); got != want {
		t.Errorf("at the loop's head stands %s, want %s", got, want)
	}
}

func TestP12Objects(t *testing.T) {
	// New 7, Store 0, In, Zero 11, New 7, Store 0; at 11: Return.
	wantPrepared(t, []prepared{
		least("two that are not set", open(1, 1, []int{15, 7, 3, 0, 24, 12, 11, 15, 7, 3, 0, 22}), at(11, topType)),
		least("one that is not set", open(1, 1, []int{15, 7, 3, 0, 24, 12, 7, 22}), at(7, raw(0))),
		least("one on the stack", open(1, 2, []int{15, 7, 24, 12, 5, 22}), at(5, topType, raw(0))),
		least("the one of the last round", open(1, 1, []int{15, 7, 3, 0, 24, 12, 0, 22}), at(0, topType)),
		noMaps("the one of the last round, set", open(1, 2, []int{15, 7, 3, 0, 24, 12, 0, 2, 0, 24, 16, 7, 24, 12, 7, 22})),
		least("set on one way", open(1, 3, []int{15, 7, 5, 3, 0, 24, 12, 13, 0, 1, 16, 7, 22, 22}), at(13, raw(0), raw(0))),
		// New 7, Dup, Store 0, In, Init 7, In, Zero 12; at 12: Return.
		least("set on both ways", open(1, 3, []int{15, 7, 5, 3, 0, 24, 16, 7, 24, 12, 11, 22}), at(11, ref(7))),
		// New 7, Dup, Store 0, In, Zero 13, In, Init 7, Jump 14; at 13: Pop; at 14: Return.
		least("set on one of two ways", open(1, 3, []int{15, 7, 5, 3, 0, 24, 12, 13, 24, 16, 7, 11, 14, 4, 22}), at(13, raw(0), raw(0)), at(14, topType)),
		least("a Null and one not set", open(1, 1, []int{1, 3, 0, 24, 12, 10, 15, 7, 3, 0, 22}), at(10, topType)),
	})
}

func TestP12Handlers(t *testing.T) {
	// Null, Store 0; at 3: In, Store 0; at 6: Return; at 7 and at 8: Throw.
	code := []int{1, 3, 0, 24, 3, 0, 22, 23, 23}
	with := func(h ...handler) method { return open(1, 1, code, h...) }
	// The same; but at 7: Pop, Load 0, Return.
	loads := []int{1, 3, 0, 24, 3, 0, 22, 4, 2, 0, 22}
	wantPrepared(t, []prepared{
		least("ahead of the Store", with(handler{3, 6, 7, 2}), at(7, nullType, ref(2))),
		least("behind it too", with(handler{3, 7, 7, 2}), at(7, topType, ref(2))),
		least("behind it alone", with(handler{6, 7, 7, 2}), at(7, intType, ref(2))),
		least("ahead of everything", with(handler{0, 3, 7, 1}), at(7, topType, ref(1))),
		least("two at one place", with(handler{3, 4, 7, 2}, handler{4, 6, 7, 3}), at(7, nullType, ref(1))),
		least("two around one place", with(handler{3, 4, 7, 2}, handler{3, 4, 8, 3}, handler{7, 8, 8, 4}), at(7, nullType, ref(2)), at(8, nullType, ref(1))),
		least("around nothing that is come to", with(handler{7, 9, 7, 2})),
		least("around itself", with(handler{3, 9, 7, 2}), at(7, topType, ref(2))),
		least("around what only another comes to", with(handler{7, 8, 8, 2}, handler{3, 4, 7, 3}), at(7, nullType, ref(3)), at(8, nullType, ref(2))),
		noMaps("two heights at its target", with(handler{3, 4, 6, 2})),
		noMaps("two heights at its target, which comes first", with(handler{3, 4, 0, 2})),
		noMaps("no room on the stack", open(1, 0, []int{22, 22}, handler{0, 1, 1, 1})),
		least("no room, and none wanted", open(1, 0, []int{22, 22}, handler{1, 2, 1, 1})),
		least("a local that is loaded", open(1, 1, loads, handler{3, 4, 7, 1}), at(7, nullType, ref(1))),
		noMaps("a local that can't be loaded any more", open(1, 1, loads, handler{3, 7, 7, 1})),
		noMaps("a rule that does not hold at its target", open(1, 1, []int{24, 25, 22, 25, 22}, handler{0, 1, 3, 1})),
		noMaps("the last one goes on at its target", open(1, 1, []int{24, 25, 22, 4}, handler{0, 1, 3, 1})),
	})
}

// Each of the four reasons for which there are no maps, and which method is told.
func TestP12NoMaps(t *testing.T) {
	reasons := []method{
		open(0, 1, []int{24, 24, 22}), open(0, 0, []int{4, 22}), open(1, 1, []int{2, 0, 22}), open(0, 1, []int{1, 25, 22}),
		open(0, 2, []int{24, 12, 4, 24, 22}), open(0, 0, []int{22, 22}, handler{0, 1, 1, 1}),
		open(0, 1, []int{24}), open(0, 1, []int{24, 12, 0}), open(0, 1, []int{22, 11, 0, 24})}
	for i, m := range reasons[:8] {
		wantPrepared(t, []prepared{noMaps(fmt.Sprint("reason ", i), m)})
		for which := 0; which < 6; which++ {
			l := repeated(6, plainMethod())
			l[which] = m
			wantNone(t, "one of six", family(l...).file(), which)
			l[5] = reasons[1]
			wantNone(t, "of two the first", family(l...).file(), which)
		}
	}
	wantPrepared(t, []prepared{least("the last one, which nothing goes to, goes on", reasons[8])})
}

// Methods with a class, parameters and a result: the start frame, and calls of one another.
func TestP12StartFrame(t *testing.T) {
	loop := []int{11, 0}
	own := method{class: 8, name: 4, params: []pair{intType, ref(9)}, result: ref(7), locals: 5, stack: 3, code: loop}
	free := method{class: api.NoClass, params: []pair{ref(2), intType}, result: intType, locals: 2, stack: 1, code: loop}
	calls := open(0, 3, []int{24, 12, 16, 1, 24, 20, 1, 25, 1, 24, 1, 21, 0, 19, 8, 4, 22})
	bare := family(own, free, calls)
	full := family(own, free, calls)
	full.methods[0].maps = []stackMap{{0, []pair{ref(8), intType, ref(9), topType, topType}, nil}}
	full.methods[1].maps = []stackMap{{0, []pair{ref(2), intType}, nil}}
	full.methods[2].maps = []stackMap{{16, nil, nil}}
	wantFull(t, "three methods", bare.file(), full.file())
	bare.methods[1].result = topType
	wantNone(t, "the call gives nothing back", bare.file(), 2)
}

// As many maps as a code has room for: 58 jumps to as many places, and four handlers' targets.
func TestP12MostMaps(t *testing.T) {
	m := open(8, 8, nil)
	full := m
	for n := 0; n < 58; n++ {
		m.code = append(m.code, 11, (2*n+2)%116)
		full.maps = append(full.maps, stackMap{2 * n, repeated(8, topType), nil})
	}
	m.code = append(m.code, 23, 23, 23, 23)
	for n := 0; n < 4; n++ {
		m.handlers = append(m.handlers, handler{0, 116, 116 + n, 3 + n})
		full.maps = append(full.maps, stackMap{116 + n, repeated(8, topType), []pair{ref(3 + n)}})
	}
	full.code, full.handlers = m.code, m.handlers
	wantFull(t, "the most maps", family(repeated(6, m)...).file(), family(repeated(6, full)...).file())
}

func TestP12Form(t *testing.T) {
	bad := plainMethod(99)
	wrong := open(0, 0, []int{25})
	for which := 1; which < 6; which++ {
		l := repeated(6, wrong)
		l[which] = bad
		wantError(t, "the errors of form come first", family(l...).file(), api.ErrCode, which, 1)
		l[which] = wrong
		l[which].maps = []stackMap{{1, nil, nil}}
		wantError(t, "a map's form matters", family(l...).file(), api.ErrMap, which, 0)
	}
	p := family(wrong)
	p.classes[2].above = 9
	wantError(t, "a class", p.file(), api.ErrClass, 9, 0)
}

// lowered: the program with one type in one map put lower, in every way there is.
func lowered(p program) []program {
	var l []program
	for i, m := range p.methods {
		for j := range m.maps {
			for k := range len(m.maps[j].locals) + len(m.maps[j].stack) {
				for _, t := range p.types(m) {
					q := withMaps(p, i, slices.Clone(m.maps))
					s := &q.methods[i].maps[j]
					types := slices.Concat(s.locals, s.stack)
					if t == types[k] || !p.fits(t, types[k]) {
						continue
					}
					types[k] = t
					s.locals, s.stack = types[:len(s.locals)], types[len(s.locals):]
					l = append(l, q)
				}
			}
		}
	}
	return l
}

// fewer: the program with one map taken away, in every way there is.
func fewer(p program) []program {
	var l []program
	for i, m := range p.methods {
		for j := range m.maps {
			l = append(l, withMaps(p, i, slices.Delete(slices.Clone(m.maps), j, j+1)))
		}
	}
	return l
}

func withMaps(p program, which int, maps []stackMap) program {
	p.methods = slices.Clone(p.methods)
	p.methods[which].maps = maps
	return p
}

// holdLeast: what was prepared of p is right, the fewest, and the least.
func holdLeast(t *testing.T, p program, s string) {
	t.Helper()
	wantOK(t, "prepared", s)
	q, _ := parseByWords(s)
	for _, o := range fewer(q) {
		if e, _, _ := stackmap.Check(o.file()); e == api.OK {
			t.Errorf("Prepare(%q) = %q: a map less will do: %q", p.file(), s, o.file())
		}
	}
	for _, o := range lowered(q) {
		if e, _, _ := stackmap.Check(o.file()); e == api.OK {
			t.Errorf("Prepare(%q) = %q: lower maps will do: %q", p.file(), s, o.file())
		}
	}
	if e, _, _ := stackmap.Check(p.file()); e != api.OK {
		return
	}
	for i, m := range q.methods {
		for _, one := range m.maps {
			if other, has := p.methods[i].frameOfMap(one.place); !has || !p.frameFits(frame{one.locals, one.stack}, other) {
				t.Errorf("Prepare(%q) = %q: in method %d the map at %d is not the least", p.file(), s, i, one.place)
			}
		}
	}
}

// Programs made at random: what is prepared is held against what the document says of it, not against how it is found.
func TestP12Random(t *testing.T) {
	d := &dice{12}
	seen := map[api.Errno]int{}
	for n := 0; n < 1200; n++ {
		p := d.program()
		if d.oneIn(2) {
			p = d.spoiled(p)
		}
		file := p.file()
		s, e, which := stackmap.Prepare(file)
		seen[e]++
		checked, _, _ := stackmap.Check(file)
		if bare, _ := stackmap.Strip(file); bare != "" {
			if again, f, w := stackmap.Prepare(bare); again != s || f != e || w != which {
				t.Errorf("Prepare(%q) = %q, %d, %d, without its maps %q, %d, %d", file, s, e, which, again, f, w)
			}
		}
		switch {
		case e == api.OK:
			holdLeast(t, p, s)
		case checked == api.OK:
			t.Errorf("Prepare(%q) = %d, but its own maps are right", file, e)
		case e == api.ErrType:
			// The other methods do not hang on this one's code.
			p.methods[which].code, p.methods[which].handlers, p.methods[which].maps = []int{11, 0}, nil, nil
			if _, e, later := stackmap.Prepare(p.file()); e != api.OK && later <= which {
				t.Errorf("Prepare(%q): method %d, but then method %d", file, which, later)
			}
		}
	}
	if seen[api.OK] < 300 || seen[api.ErrType] < 300 {
		t.Errorf("the errors that came: %v", seen)
	}
}

// everyMaps: all the lists of maps that a code can have, with no other types than these.
func everyMaps(m method, types []pair) [][]stackMap {
	tuples := func(n int) [][]pair {
		l := [][]pair{nil}
		for ; n > 0; n-- {
			var longer [][]pair
			for _, t := range types {
				for _, old := range l {
					longer = append(longer, append(slices.Clone(old), t))
				}
			}
			l = longer
		}
		return l
	}
	lists := [][]stackMap{nil}
	for _, at := range places(m.code) {
		longer := slices.Clone(lists)
		for _, locals := range tuples(m.locals) {
			for high := 0; high <= m.stack; high++ {
				for _, stack := range tuples(high) {
					for _, old := range lists {
						longer = append(longer, append(slices.Clone(old), stackMap{at, locals, stack}))
					}
				}
			}
		}
		lists = longer
	}
	return lists
}

// howMany: how many such lists there are, with that many types.
func howMany(m method, types int) int {
	one, power := 0, 1
	for range m.stack + 1 {
		one += power
		power *= types
	}
	for range m.locals {
		one *= types
	}
	all := 1
	for range places(m.code) {
		all *= one + 1
	}
	return all
}

// bestOf: of lists of maps the one with the fewest, each of which fits that of every other list.
func bestOf(p program, lists [][]stackMap) []stackMap {
	for _, l := range lists {
		isBest := true
		for _, other := range lists {
			isBest = isBest && len(l) <= len(other)
			for _, one := range l {
				f, has := method{maps: other}.frameOfMap(one.place)
				isBest = isBest && has && p.frameFits(frame{one.locals, one.stack}, f)
			}
		}
		if isBest {
			return l
		}
	}
	return nil
}

// small draws a method of a few instructions.
func (d *dice) small() method {
	m := open(d.below(2), 1+d.below(2), nil)
	for n := 1 + d.below(3); n > 0; n-- {
		op := []int{24, 24, 1, 1, 4, 25, 5, 3, 2, 11, 12, 12, 14, 14, 19, 23}[d.below(16)]
		m.code = append(m.code, op)
		switch op {
		case 11, 12, 14:
			m.code = append(m.code, d.below(6))
		case 2, 3, 19:
			m.code = append(m.code, 0)
		}
	}
	if !d.oneIn(8) {
		m.code = append(m.code, 22)
	}
	if list := places(m.code); d.oneIn(4) {
		m.handlers = []handler{{list[0], len(m.code), list[d.below(len(list))], 1}}
	}
	return m
}

// met: the types that can come up in a small method.
func met(m method) []pair {
	l := []pair{topType}
	for _, at := range places(m.code) {
		if t, comes := map[int]pair{24: intType, 1: nullType, 19: ref(0)}[m.code[at]]; comes && !slices.Contains(l, t) {
			l = append(l, t)
		}
	}
	if m.handlers != nil {
		l = append(l, ref(1))
	}
	return l
}

// Small methods, with every list of maps tried out that has no other types than those that can come up there.
func TestP12EveryMaps(t *testing.T) {
	d := &dice{7}
	tried, some, none := 0, 0, 0
	for tried < 200000 {
		p := program{methods: []method{d.small()}}
		m, file := p.methods[0], p.file()
		if v, _ := byWords(file); ofForm(v.e) || howMany(m, len(met(m))) > 1200 {
			continue
		}
		var right [][]stackMap
		for _, l := range everyMaps(m, met(m)) {
			tried++
			if e, _, _ := stackmap.Check(withMaps(p, 0, l).file()); e == api.OK {
				right = append(right, l)
			}
		}
		if right == nil {
			none++
			wantNone(t, "every list of maps tried", file, 0)
			continue
		}
		some++
		wantFull(t, "every list of maps tried", file, withMaps(p, 0, bestOf(p, right)).file())
	}
	if some < 50 || none < 50 {
		t.Errorf("%d had maps, %d had none", some, none)
	}
}
