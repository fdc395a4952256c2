package stackmap_test

import (
	"strings"
	"testing"

	"stackmap/api"
	"stackmap/stackmap"
)

func typed(p pair) api.Type { return api.Type{Kind: p[0], N: p[1]} }

// aboves: the classes that are above each one, written out by hand for the file of TestP9All.
var aboves = map[int][]int{
	0: nil, 1: {0}, 2: {1, 0}, 3: {1, 0}, 4: {1, 0}, 5: {1, 0}, 6: {1, 0},
	7: {0}, 8: {7, 0}, 9: {8, 7, 0}, 10: {7, 0}, 11: {2, 1, 0}, 12: {11, 2, 1, 0},
}

func fitsByWords(a, b pair) bool {
	if a == b || b == topType {
		return true
	}
	if b[0] != api.Ref {
		return false
	}
	if a == nullType {
		return true
	}
	if a[0] == api.Ref {
		for _, c := range aboves[a[1]] {
			if c == b[1] {
				return true
			}
		}
	}
	return false
}

// joinByWords: of all types the one that both fit and that fits every other that both fit.
func joinByWords(t *testing.T, all []pair, a, b pair) pair {
	var both []pair
	for _, c := range all {
		if fitsByWords(a, c) && fitsByWords(b, c) {
			both = append(both, c)
		}
	}
	var least []pair
	for _, c := range both {
		ok := true
		for _, d := range both {
			ok = ok && fitsByWords(c, d)
		}
		if ok {
			least = append(least, c)
		}
	}
	if len(least) != 1 {
		t.Fatalf("%v and %v: least types %v", a, b, least)
	}
	return least[0]
}

func TestP9All(t *testing.T) {
	file := withClasses(class{0, nil}, class{7, nil}, class{8, nil}, class{7, nil}, class{2, nil}, class{11, nil})
	all := []pair{topType, intType, nullType, raw(0), raw(3), raw(12), raw(119)}
	for c := 0; c <= 12; c++ {
		all = append(all, ref(c))
	}
	for _, a := range all {
		for _, b := range all {
			if ok, e := stackmap.Fits(file, typed(a), typed(b)); ok != fitsByWords(a, b) || e != api.OK {
				t.Errorf("Fits(%v, %v) = %v, %d", a, b, ok, e)
			}
			want := joinByWords(t, all, a, b)
			if j, e := stackmap.Join(file, typed(a), typed(b)); j != typed(want) || e != api.OK {
				t.Errorf("Join(%v, %v) = %v, %d, want %v", a, b, j, e, want)
			}
		}
	}
}

func TestP9NoOwnClasses(t *testing.T) {
	file := alone(plainMethod())
	for _, c := range []struct{ a, b, join pair }{{ref(2), ref(6), ref(1)}, {ref(2), ref(0), ref(0)}, {ref(1), ref(3), ref(1)}, {nullType, ref(4), ref(4)}, {raw(1), nullType, topType}} {
		if j, e := stackmap.Join(file, typed(c.a), typed(c.b)); j != typed(c.join) || e != api.OK {
			t.Errorf("Join(%v, %v) = %v, %d, want %v", c.a, c.b, j, e, c.join)
		}
	}
	wantArg(t, file, api.Type{Kind: api.Ref, N: 7}, typed(topType))
}

// wantArg: whichever stands first, ErrArg and nothing else.
func wantArg(t *testing.T, file string, a, b api.Type) {
	t.Helper()
	for _, p := range [][2]api.Type{{a, b}, {b, a}} {
		if ok, e := stackmap.Fits(file, p[0], p[1]); ok || e != api.ErrArg {
			t.Errorf("Fits(%v, %v) = %v, %d, want ErrArg", p[0], p[1], ok, e)
		}
		if j, e := stackmap.Join(file, p[0], p[1]); (j != api.Type{}) || e != api.ErrArg {
			t.Errorf("Join(%v, %v) = %v, %d, want ErrArg", p[0], p[1], j, e)
		}
	}
}

const (
	leastOfAll    = -1 << 63
	greatestOfAll = 1<<63 - 1
)

func TestP9Arguments(t *testing.T) {
	file := withClasses(class{}, class{}) // classes 0 to 8
	odd := []int{leastOfAll, -1 << 32, -256, -1, 1, 2, 8, 9, 119, 120, 255, 256, 1 << 32, greatestOfAll}
	for _, kind := range []int{leastOfAll, -1, 0, 1, 2, 3, 4, 5, 255, 256, 259, 1 << 32, greatestOfAll} {
		for _, n := range append(odd, 0) {
			good := kind >= 0 && kind <= 2 && n == 0 || kind == 3 && n >= 0 && n <= 8 || kind == 4 && n >= 0 && n <= 119
			a := api.Type{Kind: kind, N: n}
			if !good {
				wantArg(t, file, a, a)
				wantArg(t, file, a, typed(topType))
				wantArg(t, file, a, typed(ref(8)))
				continue
			}
			if ok, e := stackmap.Fits(file, a, a); !ok || e != api.OK {
				t.Errorf("Fits(%v, itself) = %v, %d", a, ok, e)
			}
			if j, e := stackmap.Join(file, a, a); j != a || e != api.OK {
				t.Errorf("Join(%v, itself) = %v, %d", a, j, e)
			}
		}
	}
}

func TestP9Errors(t *testing.T) {
	badMethod := plainMethod(99)
	badMethod.name = 5
	badMethod.handlers, badMethod.maps = []handler{{9, 1, 9, 0}}, []stackMap{{place: 77}}
	wrong := api.Type{Kind: 9, N: -9}
	for _, c := range []struct {
		what string
		file string
		e    api.Errno
	}{
		{"too long", strings.Repeat("S", 15001), api.ErrLong},
		{"no file", "SM", api.ErrForm},
		{"no file, and a wrong class", withClasses(class{7, nil}) + "\x00", api.ErrForm},
		{"a wrong class", withClasses(class{}, class{8, nil}), api.ErrClass},
		{"a wrong field", withClasses(class{0, []pair{nullType}}), api.ErrClass},
		{"a wrong method", alone(badMethod), api.OK},
	} {
		for _, a := range []api.Type{typed(nullType), wrong} {
			want := c.e
			if want == api.OK && a == wrong {
				want = api.ErrArg
			}
			ok, e := stackmap.Fits(c.file, a, typed(ref(6)))
			if ok != (want == api.OK) || e != want {
				t.Errorf("%s: Fits = %v, %d, want %d", c.what, ok, e, want)
			}
			j, e := stackmap.Join(c.file, a, typed(ref(6)))
			if (j == typed(ref(6))) != (want == api.OK) || want != api.OK && j != (api.Type{}) || e != want {
				t.Errorf("%s: Join = %v, %d, want %d", c.what, j, e, want)
			}
		}
	}
}

func TestP9Examples(t *testing.T) {
	file := withClasses(class{0, nil}, class{7, nil}, class{7, nil})
	for _, c := range []struct{ a, b, join pair }{
		{ref(8), ref(9), ref(7)}, {ref(8), ref(2), ref(0)}, {ref(8), nullType, ref(8)}, {intType, nullType, topType}, {raw(3), raw(3), raw(3)}, {raw(3), raw(4), topType},
	} {
		if j, e := stackmap.Join(file, typed(c.a), typed(c.b)); j != typed(c.join) || e != api.OK {
			t.Errorf("Join(%v, %v) = %v, %d, want %v", c.a, c.b, j, e, c.join)
		}
	}
	for _, c := range []struct {
		a, b pair
		fits bool
	}{{ref(8), ref(7), true}, {ref(8), topType, true}, {ref(8), ref(9), false}, {nullType, ref(2), true}, {nullType, intType, false}} {
		if ok, e := stackmap.Fits(file, typed(c.a), typed(c.b)); ok != c.fits || e != api.OK {
			t.Errorf("Fits(%v, %v) = %v, %d, want %v", c.a, c.b, ok, e, c.fits)
		}
	}
}
