package value

import (
	"entail/api"
	"entail/num"
	"entail/types"
)

// target is a type that values are converted to: its kind, with the width of bit vectors.
func target(typ string) (sort, bool) {
	t, e := types.Tree(typ)
	if e != api.OK {
		return sort{}, false
	}
	switch root := t[len(t)-1]; root.Op {
	case api.TBool:
		return sort{kind: api.VBool}, true
	case api.TInt:
		return sort{kind: api.VInt}, true
	case api.TReal:
		return sort{kind: api.VReal}, true
	case api.TBits:
		return sort{api.VBits, root.Text}, true
	}
	return sort{}, false
}

// converted returns a number as a value of another type.
func converted(v api.Value, to sort) (api.Value, api.Errno) {
	n := v.Num
	if v.Kind == api.VReal {
		whole, part, _ := num.Parts(n)
		if part != "1" {
			return api.Value{}, api.ErrRange
		}
		n = whole
	}
	switch to.kind {
	case api.VReal:
		n += "/1"
	case api.VBits:
		if _, e := bits(num.BitAdd, to.width, n, "0"); e != api.OK {
			return api.Value{}, e
		}
	}
	return api.Value{Kind: to.kind, Num: n, Text: to.width}, api.OK
}

// isNumber reports whether the values of a kind are numbers.
func isNumber(kind int) bool { return kind == api.VInt || kind == api.VReal || kind == api.VBits }
