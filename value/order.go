package value

import (
	"cmp"
	"strings"

	"entail/api"
	"entail/num"
)

// sort is the kind of a value, with the width of a bit vector.
type sort struct {
	kind  int
	width string
}

func sortOf(v api.Value) sort {
	if v.Kind == api.VBits {
		return sort{v.Kind, v.Text}
	}
	return sort{kind: v.Kind}
}

// compare compares two values; their numbers are well-formed.
func compare(a, b api.Value) int {
	if left, right := sortOf(a), sortOf(b); left != right {
		return cmp.Or(cmp.Compare(left.kind, right.kind), cmp.Compare(widthOf(left.width), widthOf(right.width)))
	}
	switch a.Kind {
	case api.VReal:
		order, _ := num.CompareReal(a.Num, b.Num)
		return order
	case api.VBool, api.VInt, api.VBits, api.VRef:
		order, _ := num.Compare(a.Num, b.Num)
		return order
	case api.VCons:
		if a.Text != b.Text {
			return strings.Compare(a.Text, b.Text)
		}
	}
	return compareItems(a.Items, b.Items)
}

// compareItems compares two lists, the shorter one first.
func compareItems(a, b []api.Value) int {
	if len(a) != len(b) {
		return cmp.Compare(len(a), len(b))
	}
	for i := range len(a) {
		if order := compare(a[i], b[i]); order != 0 {
			return order
		}
	}
	return 0
}

func equal(a, b api.Value) bool { return compare(a, b) == 0 }
