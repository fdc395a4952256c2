package stackmap_test

import (
	"fmt"
	"testing"

	"stackmap/api"
)

// chain: 7 right below Object, 8 below 7, 9 below 8; 10 beside them, below Fault.
var chain = []class{{0, nil}, {7, nil}, {8, nil}, {1, nil}}

func withMethods(l ...method) string { return program{chain, l}.file() }

func TestP5Class(t *testing.T) {
	for class := 0; class < 256; class++ {
		good := class >= 7 && class <= 10 || class == api.NoClass
		wantIf(t, good, fmt.Sprint("a method of class ", class), withMethods(plainMethod(), ownMethod(class, 0, topType)), api.ErrMethod, 1, 0)
	}
	wantError(t, "no own classes", alone(ownMethod(7, 0, topType)), api.ErrMethod, 0, 0)
}

func TestP5Name(t *testing.T) {
	for name := 0; name < 256; name++ {
		wantIf(t, name == 0, fmt.Sprint("without a class, name ", name), withMethods(ownMethod(api.NoClass, name, topType)), api.ErrMethod, 0, 0)
		wantForm(t, fmt.Sprint("with a class, name ", name), withMethods(ownMethod(7, name, topType)))
	}
}

func TestP5Types(t *testing.T) {
	for kind := 0; kind < 256; kind++ {
		for n := 0; n < 256; n++ {
			plain := kind == api.Int && n == 0 || kind == api.Ref && n <= 10
			what := fmt.Sprintf("type %d %d", kind, n)
			p := ownMethod(7, 1, topType, intType, pair{kind, n})
			wantIf(t, plain, "parameter of "+what, withMethods(p), api.ErrMethod, 0, 0)
			r := ownMethod(api.NoClass, 0, pair{kind, n})
			wantIf(t, plain || kind == 0 && n == 0, "result of "+what, withMethods(r), api.ErrMethod, 0, 0)
		}
	}
}

func TestP5Locals(t *testing.T) {
	for params := 0; params <= 4; params++ {
		for locals := 0; locals <= 8; locals++ {
			what := fmt.Sprintf("%d parameters, %d locals", params, locals)
			m := ownMethod(api.NoClass, 0, topType, repeated(params, intType)...)
			m.locals = locals
			wantIf(t, locals >= params, what+", no class", withMethods(m), api.ErrMethod, 0, 0)
			m = ownMethod(9, 200, topType, repeated(params, intType)...)
			m.locals = locals
			wantIf(t, locals > params, what+", a class", withMethods(m), api.ErrMethod, 0, 0)
		}
	}
}

func TestP5Twins(t *testing.T) {
	a := ownMethod(8, 3, topType)
	wantError(t, "the same class and name", withMethods(a, plainMethod(), a, a), api.ErrMethod, 2, 0)
	wantError(t, "other types do not help", withMethods(a, ownMethod(8, 3, intType, intType)), api.ErrMethod, 1, 0)
	wantError(t, "name 0", withMethods(plainMethod(), ownMethod(7, 0, topType), ownMethod(7, 0, topType)), api.ErrMethod, 2, 0)
	wantForm(t, "another name", withMethods(a, ownMethod(8, 4, topType)))
	wantForm(t, "another class", withMethods(a, ownMethod(10, 3, topType)))
	wantForm(t, "no class", withMethods(plainMethod(), plainMethod()))
}

func TestP5Heirs(t *testing.T) {
	up := ownMethod(7, 3, ref(7), intType, ref(8))
	for _, c := range []struct {
		what string
		m    method
		good bool
	}{
		{"the same types", ownMethod(8, 3, ref(7), intType, ref(8)), true},
		{"the same types, two steps down", ownMethod(9, 3, ref(7), intType, ref(8)), true},
		{"another result", ownMethod(8, 3, ref(8), intType, ref(8)), false},
		{"another result, two steps down", ownMethod(9, 3, ref(8), intType, ref(8)), false},
		{"no result", ownMethod(8, 3, topType, intType, ref(8)), false},
		{"another kind of parameter", ownMethod(8, 3, ref(7), ref(1), ref(8)), false},
		{"another class of parameter", ownMethod(8, 3, ref(7), intType, ref(7)), false},
		{"fewer parameters", ownMethod(8, 3, ref(7), intType), false},
		{"more parameters", ownMethod(8, 3, ref(7), intType, ref(8), ref(8)), false},
		{"the other order", ownMethod(9, 3, ref(7), ref(8), intType), false},
		{"another name", ownMethod(8, 4, topType), true},
		{"a class beside it", ownMethod(10, 3, topType), true},
		{"no class", plainMethod(), true},
	} {
		wantIf(t, c.good, c.what, withMethods(up, c.m), api.ErrMethod, 1, 0)
		wantIf(t, c.good, c.what+", standing first", withMethods(c.m, up), api.ErrMethod, 0, 0)
	}
	a, b := ownMethod(7, 0, topType), plainMethod()
	b.params, b.locals = []pair{intType}, 1
	wantForm(t, "no class is no class above", withMethods(a, b))
	wantError(t, "a class above that may have no methods", withMethods(ownMethod(7, 3, topType), ownMethod(0, 3, intType)), api.ErrMethod, 0, 0)
	wantError(t, "the same, called in the same way", withMethods(ownMethod(7, 3, topType), ownMethod(0, 3, topType)), api.ErrMethod, 1, 0)
}

func TestP5First(t *testing.T) {
	named, lost := plainMethod(), ownMethod(6, 0, topType)
	named.name = 1
	wantError(t, "of two the first", withMethods(plainMethod(), lost, named), api.ErrMethod, 1, 0)
	wantError(t, "the other way round", withMethods(plainMethod(), named, lost), api.ErrMethod, 1, 0)
	broken := plainMethod(99)
	broken.handlers, broken.maps = []handler{{9, 1, 9, 0}}, []stackMap{{place: 77}}
	wantError(t, "ahead of what an earlier method holds", withMethods(broken, named), api.ErrMethod, 1, 0)
}
