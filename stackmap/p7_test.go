package stackmap_test

import (
	"fmt"
	"testing"

	"stackmap/api"
)

// guarded: a file of classes 7 (below 0), 8 (below 1), 9 (below 8) and one method of two locals, with a stack of two: instructions at 0, 1 (New), 3 (Const, its n the byte of New), 5 (New) and 7; the code's length is 8.
func guarded(handlers []handler, maps []stackMap) string {
	m := plainMethod(api.OpNew, 6, api.OpConst, api.OpNew, api.OpNew, 8, api.OpReturn)
	m.locals, m.stack, m.handlers, m.maps = 2, 2, handlers, maps
	return program{[]class{{0, nil}, {1, nil}, {8, nil}}, []method{m}}.file()
}

func begins(place int) bool {
	return place == 0 || place == 1 || place == 3 || place == 5 || place == 7
}

func TestP7HandlerPlaces(t *testing.T) {
	places := []int{0, 1, 2, 3, 4, 5, 6, 7, 8, 9, 128, 255}
	for _, from := range places {
		for _, to := range places {
			for _, target := range places {
				good := from < to && begins(from) && begins(target) && (begins(to) || to == 8)
				h := handler{from, to, target, 1}
				wantIf(t, good, fmt.Sprint("handler ", h), guarded([]handler{h}, nil), api.ErrHandler, 0, 0)
			}
		}
	}
}

func TestP7HandlerClass(t *testing.T) {
	for class := 0; class < 256; class++ {
		good := class >= 1 && class <= 6 || class == 8 || class == 9
		wantIf(t, good, fmt.Sprint("handler of class ", class), guarded([]handler{{0, 8, 7, class}}, nil), api.ErrHandler, 0, 0)
	}
}

func TestP7HandlerNumber(t *testing.T) {
	for which := 0; which < 4; which++ {
		l := repeated(4, handler{0, 8, 7, 2})
		l[which].class = 0
		wantError(t, "one wrong handler", guarded(l, nil), api.ErrHandler, 0, which)
		l[3].to = 0
		wantError(t, "of two the first", guarded(l, nil), api.ErrHandler, 0, which)
	}
}

func TestP7MapPlace(t *testing.T) {
	tops := repeated(2, topType)
	for a := 0; a < 256; a++ {
		one := stackMap{a, tops, nil}
		wantIf(t, begins(a), fmt.Sprint("a map at ", a), guarded(nil, []stackMap{one}), api.ErrMap, 0, 0)
		for b := 0; b < 12 && begins(a); b++ {
			two := stackMap{b, tops, nil}
			wantIf(t, begins(b) && b > a, fmt.Sprintf("maps at %d and %d", a, b), guarded(nil, []stackMap{one, two}), api.ErrMap, 0, 1)
		}
	}
	wantError(t, "only the map right before counts, but the first is told", guarded(nil, []stackMap{{5, tops, nil}, {3, tops, nil}, {7, tops, nil}}), api.ErrMap, 0, 1)
}

func TestP7MapTypes(t *testing.T) {
	for kind := 0; kind < 256; kind++ {
		for n := 0; n < 256; n++ {
			p := pair{kind, n}
			good := kind <= api.Null && n == 0 || kind == api.Ref && n <= 9 || kind == api.Raw && (n == 1 || n == 5)
			first := stackMap{0, repeated(2, topType), nil}
			l := stackMap{7, []pair{topType, p}, nil}
			wantIf(t, good, fmt.Sprint("a local of type ", p), guarded(nil, []stackMap{first, l}), api.ErrMap, 0, 1)
			s := stackMap{7, repeated(2, topType), []pair{intType, p}}
			wantIf(t, good, fmt.Sprint("on the stack a type ", p), guarded(nil, []stackMap{first, s}), api.ErrMap, 0, 1)
		}
	}
}

func TestP7Order(t *testing.T) {
	badCode := method{class: api.NoClass, code: []int{99}}
	badHandler := plainMethod()
	badHandler.handlers = []handler{{0, 1, 0, 0}}
	badMap := plainMethod()
	badMap.maps = []stackMap{{place: 1}}
	both := badHandler
	both.maps = badMap.maps
	all := both
	all.code = []int{api.OpReturn, api.OpLoad, 9}
	for _, c := range []struct {
		what      string
		l         []method
		e         api.Errno
		which, at int
	}{
		{"code ahead of handlers and maps", []method{all}, api.ErrCode, 0, 1},
		{"handlers ahead of maps", []method{both}, api.ErrHandler, 0, 0},
		{"maps", []method{badMap}, api.ErrMap, 0, 0},
		{"maps ahead of the next method's code", []method{plainMethod(), badMap, badCode}, api.ErrMap, 1, 0},
		{"handlers ahead of the next method's code", []method{badHandler, badCode, badMap}, api.ErrHandler, 0, 0},
		{"code ahead of the next method's maps", []method{plainMethod(), plainMethod(), badCode, badMap}, api.ErrCode, 2, 0},
	} {
		wantError(t, c.what, program{nil, c.l}.file(), c.e, c.which, c.at)
	}
}

// A Raw is of a New of its own method, not of another one's.
func TestP7RawOfAnotherMethod(t *testing.T) {
	a, b := plainMethod(api.OpNew, 6), plainMethod(api.OpReturn, api.OpReturn)
	b.locals, b.maps = 1, []stackMap{{1, []pair{raw(1)}, nil}}
	wantError(t, "Raw of another method's New", program{nil, []method{a, b}}.file(), api.ErrMap, 1, 0)
}
