package model

import (
	"entail/api"
	"entail/num"
)

// taken puts an argument, and reports whether it is a value of a sort.
func (w *world) taken(s int, v api.Value) (int, bool) {
	place, fits := w.take(v)
	return place, fits && w.has(s, place)
}

// has reports whether a value is one of a sort, as far as it is not too large.
func (w *world) has(s, place int) bool {
	pair := [2]int{s, place}
	is, known := w.checked[pair]
	if !known {
		is = w.isOf(w.sorts[s], w.values[place])
		w.checked[pair] = is
	}
	return is
}

// isOf reports whether a value is one of a sort that is taken apart.
func (w *world) isOf(s sort, v stored) bool {
	forms := [...]struct {
		kind     int
		isNumber func(string) bool
		hasItems func(w *world, s sort, v stored) bool
	}{
		aBool: {api.VBool, isTruth, (*world).hasNone}, anInt: {api.VInt, isInteger, (*world).hasNone}, aReal: {api.VReal, isFraction, (*world).hasNone},
		aSort: {api.VRef, s.isElement, (*world).hasNone}, aData: {api.VCons, isEmpty, (*world).hasArguments}, aSeq: {api.VSeq, isEmpty, (*world).hasElements},
		aSet: {api.VSet, isEmpty, (*world).hasMembers}, aMap: {api.VMap, isEmpty, (*world).hasEntries},
	}
	form := forms[s.kind]
	return v.kind == form.kind && form.isNumber(v.num) && (v.text == "" || s.kind == aData) && len(v.items) <= maxItems(v.kind) && form.hasItems(w, s, v)
}

func isEmpty(s string) bool { return s == "" }

func isTruth(s string) bool { return s == "0" || s == "1" }

func isInteger(s string) bool { return num.Check(s) == api.OK }

func isFraction(s string) bool { return num.CheckReal(s) == api.OK }

// isElement reports whether a string is the number of an element of an uninterpreted sort.
func (s sort) isElement(number string) bool {
	n, e := num.ToInt(number)
	return e == api.OK && 0 <= n && n < s.size
}

func (w *world) hasNone(s sort, v stored) bool { return len(v.items) == 0 }

// hasArguments reports whether a value is made by a constructor of a datatype.
func (w *world) hasArguments(s sort, v stored) bool {
	for _, c := range w.made(s.data) {
		if c.name == v.text {
			return len(v.items) == len(c.fields) && w.haveSorts(v.items, c.fields)
		}
	}
	return false
}

// haveSorts reports whether values have some sorts, which are repeated as often as needed.
func (w *world) haveSorts(items, sorts []int) bool {
	for i, item := range items {
		if !w.has(sorts[i%len(sorts)], item) {
			return false
		}
	}
	return true
}

func (w *world) hasElements(s sort, v stored) bool { return w.haveSorts(v.items, s.parts) }

func (w *world) hasMembers(s sort, v stored) bool {
	return w.haveSorts(v.items, s.parts) && w.isAscending(v.items, 1)
}

// isAscending reports whether values that have a distance are strictly ascending.
func (w *world) isAscending(items []int, distance int) bool {
	for i := distance; i < len(items); i += distance {
		if w.compare(items[i-distance], items[i]) >= 0 {
			return false
		}
	}
	return true
}

// hasEntries reports whether the items of a map are a default and entries that differ from it.
func (w *world) hasEntries(s sort, v stored) bool {
	if len(v.items)%2 == 0 || !w.has(s.parts[1], v.items[0]) {
		return false
	}
	standard, entries := v.items[0], v.items[1:]
	if !w.haveSorts(entries, s.parts) || !w.isAscending(entries, 2) {
		return false
	}
	first := -1
	if w.isSmall(s.parts[0]) {
		first = w.all(s.parts[0])[0]
	}
	for i := 0; i < len(entries); i += 2 {
		if entries[i] == first || entries[i+1] == standard {
			return false
		}
	}
	return true
}
