package types_test

import (
	"fmt"
	"testing"

	"stackmap/api"
	"stackmap/layout"
	"stackmap/types"
)

func treeOf(above ...int) types.Tree {
	var f layout.File
	for _, a := range above {
		f.Classes = append(f.Classes, layout.Class{Above: a})
	}
	return types.TreeOf(f)
}

func TestBelow(t *testing.T) {
	tree := treeOf(0, 7, 8, 2)
	for _, c := range []struct {
		low, high int
		is        bool
	}{
		{1, 0, true}, {2, 0, true}, {2, 1, true}, {6, 1, true}, {2, 3, false}, {0, 0, false}, {0, 1, false}, {1, 2, false},
		{9, 8, true}, {9, 7, true}, {9, 0, true}, {9, 1, false}, {9, 9, false}, {7, 9, false}, {10, 2, true}, {10, 1, true}, {10, 3, false},
		{11, 0, false}, {255, 0, false}, {-1, 0, false}, {0, -1, false}, {-1, -1, false}, {9, 11, false},
	} {
		if is := tree.Below(c.low, c.high); is != c.is {
			t.Errorf("Below(%d, %d) = %v", c.low, c.high, is)
		}
		if is := tree.Within(c.low, c.high); is != (c.is || c.low == c.high) {
			t.Errorf("Within(%d, %d) = %v", c.low, c.high, is)
		}
	}
}

// Classes above themselves are refused by the callers, but what is asked of them ends all the same.
func TestNoTreeEnds(t *testing.T) {
	for _, tree := range []types.Tree{treeOf(7), treeOf(8, 7), treeOf(12, 7, 8, 9, 10, 11), treeOf(255, 200), {}} {
		for a := -1; a < 14; a++ {
			for b := -1; b < 14; b++ {
				tree.Below(a, b)
				tree.Join(api.Type{Kind: api.Ref, N: a}, api.Type{Kind: api.Ref, N: b})
			}
			tree.FieldsOf(a)
		}
	}
}

func TestFields(t *testing.T) {
	whole, object, own := api.Type{Kind: api.Int}, api.Type{Kind: api.Ref}, api.Type{Kind: api.Ref, N: 8}
	tree := types.TreeOf(layout.File{Classes: []layout.Class{
		{Above: 0, Fields: []api.Type{whole, own}},
		{Above: 7},
		{Above: 8, Fields: []api.Type{object}},
		{Above: 7, Fields: []api.Type{whole}},
	}})
	classes, list := []int{7, 7, 9, 10}, []api.Type{whole, own, object, whole}
	for n := range list {
		if class, field := tree.Field(n); class != classes[n] || field != list[n] {
			t.Errorf("Field(%d) = %d, %v", n, class, field)
		}
	}
	for _, n := range []int{-1, 4, 255} {
		if class, field := tree.Field(n); tree.Has(class) || field != (api.Type{}) {
			t.Errorf("Field(%d) = %d, %v", n, class, field)
		}
	}
	for n, want := range []int{0, 1, 2, 2} {
		if slot := tree.Slot(n); slot != want {
			t.Errorf("Slot(%d) = %d, want %d", n, slot, want)
		}
	}
	for _, n := range []int{-1, 4, 255} {
		if slot := tree.Slot(n); slot >= 0 {
			t.Errorf("Slot(%d) = %d", n, slot)
		}
	}
	for class, want := range [][]api.Type{7: {whole, own}, 8: {whole, own}, 9: {whole, own, object}, 10: {whole, own, whole}, 11: {}} {
		if got := tree.FieldsOf(class); fmt.Sprint(got) != fmt.Sprint(want) {
			t.Errorf("FieldsOf(%d) = %v, want %v", class, got, want)
		}
	}
}
