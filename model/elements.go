package model

import (
	"iter"
	"maps"
	"slices"

	"entail/api"
	"entail/num"
)

const (
	maxFirst = MaxSmall + 1 // of the elements that are listed
	maxParts = 7            // of the elements that make sets, and the keys of maps
	noDepth  = -1
)

// scope says which elements of a sort are listed: the first ones, up to a number, and to a depth, if there is one.
type scope struct {
	sort, most, depth int
}

// of returns the scope of elements of a part.
func (s scope) of(part, most int) scope { return scope{part, most, s.depth} }

// combinations visits the lists that have one element of each of some lists, where the last element changes fastest. Each
// list is overwritten by the next one.
func combinations(lists [][]int) iter.Seq[[]int] {
	return func(yield func([]int) bool) {
		for _, l := range lists {
			if len(l) == 0 {
				return
			}
		}
		at, taken := make([]int, len(lists)), make([]int, len(lists))
		for i, l := range lists {
			taken[i] = l[0]
		}
		for yield(taken) {
			i := len(lists) - 1
			for i >= 0 && at[i] == len(lists[i])-1 {
				at[i], taken[i] = 0, lists[i][0]
				i--
			}
			if i < 0 {
				return
			}
			at[i]++
			taken[i] = lists[i][at[i]]
		}
	}
}

// isSmall reports whether a sort has few elements.
func (w *world) isSmall(s int) bool { return w.count(scope{s, maxFirst, noDepth}) <= MaxSmall }

// all returns all elements of a small sort, and the first ones of another one.
func (w *world) all(s int) []int { return w.elements(scope{s, maxFirst, noDepth}) }

// count returns how many elements are listed.
func (w *world) count(s scope) int {
	count, known := w.counts[s]
	if !known {
		count = min(w.countOf(s), s.most)
		w.counts[s] = count
	}
	return count
}

// countOf returns how many elements there are, or a number that is not less than the most that are listed.
func (w *world) countOf(s scope) int {
	switch of := w.sorts[s.sort]; of.kind {
	case aBool:
		return 2
	case aSort:
		return of.size
	case aSeq:
		return min(w.count(s.of(of.parts[0], s.most))*s.most+1, s.most)
	case aSet:
		return 1 << w.count(s.of(of.parts[0], maxParts))
	case aMap:
		return power(w.count(s.of(of.parts[1], s.most)), w.count(s.of(of.parts[0], maxParts)), s.most)
	case aData:
		return w.countData(s, of.data)
	}
	return s.most
}

// power returns a power, or a number that is not less than the most that matters.
func power(base, exponent, most int) int {
	if base == 0 {
		return 0
	}
	out := 1
	for range exponent {
		out = min(out*base, most)
	}
	return out
}

// countData returns how many elements of a datatype there are.
func (w *world) countData(s scope, data int) int {
	if s.depth == noDepth {
		return w.count(scope{s.sort, s.most, w.depthOf(s)})
	}
	if s.depth == 0 {
		return 0
	}
	inside := scope{depth: s.depth - 1}
	count := 0
	for _, c := range w.made(data) {
		product := 1
		for _, field := range c.fields {
			product = min(product*w.count(inside.of(field, s.most)), s.most)
		}
		count += product
	}
	return count
}

// depthOf returns the least depth at which there are enough elements of a datatype, or their number has not grown for so
// long that it will not grow any more.
func (w *world) depthOf(s scope) int {
	before, same := 0, 0
	for depth := 1; ; depth++ {
		count := w.count(scope{s.sort, s.most, depth})
		if count == s.most {
			return depth
		}
		same++
		if count != before {
			before, same = count, 0
		}
		if same > len(w.sig.Datas) {
			return depth
		}
	}
}

// elements returns the elements that are listed.
func (w *world) elements(s scope) []int {
	list, known := w.lists[s]
	if !known {
		list = w.elementsOf(s)
		w.lists[s] = list
	}
	return list
}

func (w *world) elementsOf(s scope) []int {
	switch of := w.sorts[s.sort]; of.kind {
	case aBool:
		return []int{no, yes}[:min(2, s.most)]
	case anInt:
		return w.integers(s.most, func(n string) int { return w.number(api.VInt, n) })
	case aReal:
		return w.integers(s.most, func(n string) int { return w.number(api.VReal, n+"/1") })
	case aSort:
		return w.refs(min(of.size, s.most))
	case aSeq:
		return w.sequences(s, of)
	case aSet:
		return w.sets(s, of)
	case aMap:
		return w.maps(s, of)
	default:
		return w.constructed(s, of.data)
	}
}

// integers returns 0, 1, -1 and so on, as values.
func (w *world) integers(most int, value func(string) int) []int {
	var out []int
	for i := range most {
		n := (i + 1) / 2
		if i%2 == 0 {
			n = -n
		}
		out = append(out, value(num.FromInt(n)))
	}
	return out
}

func (w *world) refs(count int) []int {
	var out []int
	for i := range count {
		out = append(out, w.number(api.VRef, num.FromInt(i)))
	}
	return out
}

// sequences returns the sequences of some elements by their lengths.
func (w *world) sequences(s scope, of sort) []int {
	digits := w.elements(s.of(of.parts[0], s.most))
	out := []int{w.list(api.VSeq, nil)}
	for length := 1; len(digits) > 0; length++ {
		for items := range combinations(slices.Repeat([][]int{digits}, length)) {
			if len(out) == s.most {
				return out
			}
			out = append(out, w.list(api.VSeq, slices.Clone(items)))
		}
	}
	return out
}

// sets returns the sets of some elements in the order of binary numbers.
func (w *world) sets(s scope, of sort) []int {
	elements := w.elements(s.of(of.parts[0], maxParts))
	var out []int
	for bits := range min(1<<len(elements), s.most) {
		var items []int
		for i, element := range elements {
			if bits>>i&1 == 1 {
				items = append(items, element)
			}
		}
		out = append(out, w.setOf(items))
	}
	return out
}

// setOf returns the set of different values.
func (w *world) setOf(items []int) int {
	slices.SortFunc(items, w.compare)
	return w.list(api.VSet, items)
}

// maps returns the maps with some values at some keys, where the value at the first key changes fastest.
func (w *world) maps(s scope, of sort) []int {
	values := w.elements(s.of(of.parts[1], s.most))
	if len(values) == 0 {
		return nil
	}
	keys := w.elements(s.of(of.parts[0], maxParts))
	last := len(keys) - 1
	var out []int
	for taken := range combinations(slices.Repeat([][]int{values}, len(keys))) {
		if len(out) == s.most {
			break
		}
		entries := map[int]int{}
		for i, value := range taken {
			entries[keys[last-i]] = value
		}
		out = append(out, w.mapOf(s.sort, entries, values[0]))
	}
	return out
}

// mapOf returns the map of a sort that has the values of some entries, and another value at all other keys.
func (w *world) mapOf(s int, entries map[int]int, other int) int {
	at := func(key int) int {
		if value, found := entries[key]; found {
			return value
		}
		return other
	}
	keys, standard := slices.Collect(maps.Keys(entries)), other
	if key := w.sorts[s].parts[0]; w.isSmall(key) {
		keys = slices.Clone(w.all(key))
		standard = at(keys[0])
	}
	slices.SortFunc(keys, w.compare)
	items := []int{standard}
	for _, k := range keys {
		if value := at(k); value != standard {
			items = append(items, k, value)
		}
	}
	return w.list(api.VMap, items)
}

// constructed returns the elements of a datatype.
func (w *world) constructed(s scope, data int) []int {
	if s.depth == noDepth {
		return w.elements(scope{s.sort, s.most, w.depthOf(s)})
	}
	if s.depth == 0 {
		return nil
	}
	inside := scope{depth: s.depth - 1}
	var out []int
	for _, c := range w.made(data) {
		var fields [][]int
		for _, field := range c.fields {
			fields = append(fields, w.elements(inside.of(field, s.most)))
		}
		for items := range combinations(fields) {
			if len(out) == s.most {
				return out
			}
			out = append(out, w.pool.made(c.name, slices.Clone(items)))
		}
	}
	return out
}
