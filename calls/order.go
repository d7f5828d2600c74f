package calls

import (
	"entail/api"
	"entail/num"
	"entail/value"
)

// order is the order of the values of a kind: which ones are below others, and the rank of each one.
type order struct {
	kind int
	less func(a, b api.Value) bool
	rank func(v api.Value) string
}

// orderOf returns the order of a kind of values.
func orderOf(kind int) order {
	table := [api.Kinds]order{
		{api.VBool, lessNumber, number}, {api.VInt, lessInteger, natural}, {api.VReal, lessFraction, above}, {api.VBits, lessNumber, number},
		{api.VSeq, lessCount, count}, {api.VSet, lessCount, count}, {api.VMulti, lessCount, count}, {api.VMap, lessCount, count},
		{api.VCons, lessHeight, height}, {api.VRef, never, zero},
	}
	return table[kind]
}

// sort is the kind of a value, with the width of a bit vector.
type sort struct {
	kind  int
	width string
}

func sortOf(v api.Value) sort {
	if v.Kind == api.VBits {
		return sort{v.Kind, v.Text}
	}
	return sort{kind: v.Kind}
}

// isLess reports whether a value is below another one.
func isLess(a, b api.Value) bool {
	pair := [2]sort{sortOf(a), sortOf(b)}
	return pair == [2]sort{pair[0], pair[0]} && orderOf(a.Kind).less(a, b)
}

// isBelow reports whether a list of values is below another one.
func isBelow(a, b []api.Value) bool {
	for i := range min(len(a), len(b)) {
		if way, _ := value.Compare(a[i], b[i]); way != 0 {
			return isLess(a[i], b[i])
		}
	}
	return len(a) > len(b)
}

func isNegative(v api.Value) bool { return v.Num[0] == '-' }

// lessNumber compares two numbers by their values alone.
func lessNumber(a, b api.Value) bool {
	way, _ := num.Compare(a.Num, b.Num)
	return way < 0
}

func lessInteger(a, b api.Value) bool { return !isNegative(b) && lessNumber(a, b) }

// lessFraction reports whether a fraction is below another one by 1 at least.
func lessFraction(a, b api.Value) bool {
	less, e := num.SubReal(b.Num, "1/1")
	if e != api.OK || isNegative(b) {
		return false
	}
	way, _ := num.CompareReal(a.Num, less)
	return way <= 0
}

// elements returns the number of elements of a collection, of a map that of its keys.
func elements(v api.Value) int {
	if v.Kind == api.VMap {
		return len(v.Items) / 2
	}
	return len(v.Items)
}

func lessCount(a, b api.Value) bool { return elements(a) < elements(b) }

func lessHeight(a, b api.Value) bool {
	low, _ := value.Height(a)
	high, _ := value.Height(b)
	return low < high
}

func never(a, b api.Value) bool { return false }

func number(v api.Value) string { return v.Num }

func zero(api.Value) string { return "0" }

// natural returns an integer, or 0 if it is negative.
func natural(v api.Value) string {
	if isNegative(v) {
		return "0"
	}
	return v.Num
}

// above returns the least integer above a fraction, or 0 if it is negative. One that is too large counts as itself.
func above(v api.Value) string {
	if isNegative(v) {
		return "0"
	}
	floor, _ := num.Floor(v.Num)
	next, e := num.Add(floor, "1")
	if e != api.OK {
		return floor
	}
	return next
}

func count(v api.Value) string { return num.FromInt(elements(v)) }

func height(v api.Value) string {
	h, _ := value.Height(v)
	return num.FromInt(h)
}
