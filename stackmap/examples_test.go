package stackmap_test

import (
	"testing"

	"stackmap/api"
)

// The document's examples, as far as they tell of the form.
func TestExamplesOfForm(t *testing.T) {
	head := text(83, 77, 0, 1, 255, 0, 0)
	b := head + text(0, 0, 1, 2, 19, 24, 3, 0, 2, 0, 25, 2, 0, 0, 1, 8, 5, 3, 0, 12, 18, 11, 3, 22, 0)
	c := head + text(1, 0, 0, 2, 9, 0, 6, 24, 10, 22, 4, 0, 255, 22, 1)
	one := text(83, 77, 1, 0, 1, 1, 0, 1, 255, 0, 0)
	wantError(t, "B, its maps not in their order", b+text(2, 18, 1, 0, 0, 3, 1, 0, 0), api.ErrMap, 0, 1)
	wantError(t, "C, a handler of Object", c+text(0, 4, 5, 0, 0), api.ErrHandler, 0, 0)
	wantError(t, "C, a handler's to within an instruction", c+text(0, 1, 5, 2, 0), api.ErrHandler, 0, 0)
	wantError(t, "Const without its byte", head+text(0, 0, 0, 1, 1, 0, 0, 0), api.ErrCode, 0, 0)
	wantOK(t, "A", head+text(1, 0, 1, 2, 9, 24, 3, 0, 2, 0, 0, 1, 7, 22, 0, 0))
	wantOK(t, "B prepared", b+text(2, 3, 1, 0, 0, 18, 1, 0, 0))
	wantOK(t, "B with a map that says less", b+text(2, 3, 1, 0, 0, 18, 0, 0, 0))
	wantOK(t, "C prepared", c+text(0, 4, 5, 2, 1, 5, 1, 3, 2))
	wantOK(t, "D", one+text(1, 0, 0, 3, 10, 15, 7, 5, 0, 9, 16, 7, 17, 0, 22, 0, 0))
	wantOK(t, "Get of nothing", one+text(1, 0, 0, 3, 4, 1, 17, 0, 22, 0, 0))
	wantForm(t, "B without maps", b+text(0))
	wantForm(t, "B with a wrong map", b+text(2, 3, 2, 0, 0, 18, 1, 0, 0))
	wantForm(t, "C without maps", c+text(0, 4, 5, 3, 0))
	wantForm(t, "Add", head+text(0, 0, 0, 0, 1, 7, 0, 0))
	wantForm(t, "running off the end", head+text(0, 0, 0, 1, 2, 0, 5, 0, 0))
	wantForm(t, "Get of what is not set", one+text(1, 0, 0, 3, 5, 15, 7, 17, 0, 22, 0, 0))
}
