package stackmap_test

import (
	"fmt"
	"testing"

	"stackmap/api"
)

func withClasses(l ...class) string { return program{l, []method{plainMethod()}}.file() }

func TestP4ClassAbove(t *testing.T) {
	for which := 0; which < 6; which++ {
		for above := 0; above < 256; above++ {
			l := make([]class, 6)
			l[which].above = above
			wantIf(t, above < 7+which, fmt.Sprintf("class %d right below %d", 7+which, above), withClasses(l...), api.ErrClass, 7+which, 0)
		}
	}
}

func TestP4FieldTypes(t *testing.T) {
	for kind := 0; kind < 256; kind++ {
		for n := 0; n < 256; n++ {
			good := kind == api.Int && n == 0 || kind == api.Ref && n < 9
			file := withClasses(class{0, []pair{intType, {kind, n}}}, class{0, nil})
			wantIf(t, good, fmt.Sprintf("a field of type %d %d", kind, n), file, api.ErrClass, 7, 0)
		}
	}
	wantOK(t, "its own class, a later one, given ones", withClasses(class{0, []pair{ref(7), ref(8), ref(0), ref(6)}}, class{}))
}

func TestP4First(t *testing.T) {
	wantError(t, "the second one", withClasses(class{}, class{8, nil}, class{}), api.ErrClass, 8, 0)
	wantError(t, "of two the first", withClasses(class{}, class{0, []pair{topType}}, class{9, nil}), api.ErrClass, 8, 0)
	wantError(t, "the other way round", withClasses(class{}, class{200, nil}, class{0, []pair{nullType}}), api.ErrClass, 8, 0)
	wantError(t, "the last field of the last class", withClasses(class{0, repeated(4, intType)}, class{0, []pair{intType, intType, intType, raw(0)}}), api.ErrClass, 8, 0)
	bad := plainMethod()
	bad.name = 1
	wantError(t, "ahead of a method", program{[]class{{}, {8, nil}}, []method{bad}}.file(), api.ErrClass, 8, 0)
}
