package value

import (
	"slices"

	"entail/api"
	"entail/num"
)

// entry is an entry of a map.
type entry struct {
	key, value api.Value
}

func (e entry) compare(o entry) int { return compare(e.key, o.key) }

// entries returns the entries of a list of keys and values by turns.
func entries(items []api.Value) []entry {
	var list []entry
	for i := range len(items) / 2 {
		list = append(list, entry{items[2*i], items[2*i+1]})
	}
	return list
}

// mapOf makes a map; of two entries with one key the later one is in it.
func mapOf(list []entry) api.Value {
	sorted := slices.Clone(list)
	slices.Reverse(sorted)
	slices.SortStableFunc(sorted, entry.compare)
	sorted = slices.CompactFunc(sorted, func(a, b entry) bool { return a.compare(b) == 0 })
	v := api.Value{Kind: api.VMap}
	for _, e := range sorted {
		v.Items = append(v.Items, e.key, e.value)
	}
	return v
}

func multiOf(items []api.Value) api.Value {
	return api.Value{Kind: api.VMulti, Items: slices.SortedFunc(slices.Values(items), compare)}
}

func setOf(items []api.Value) api.Value {
	sorted := slices.SortedFunc(slices.Values(items), compare)
	return api.Value{Kind: api.VSet, Items: slices.CompactFunc(sorted, equal)}
}

func seqOf(items []api.Value) api.Value { return api.Value{Kind: api.VSeq, Items: items} }

func integer(n int) api.Value { return api.Value{Kind: api.VInt, Num: num.FromInt(n)} }

// split parts the elements of a into those that b has, too, by their multiplicities, and the others.
func split(a, b api.Value) (common, rest []api.Value) {
	counts := map[string]int{}
	for _, item := range b.Items {
		counts[textOf(item)]++
	}
	for _, item := range a.Items {
		text := textOf(item)
		if counts[text] == 0 {
			rest = append(rest, item)
			continue
		}
		counts[text]--
		common = append(common, item)
	}
	return common, rest
}

// isPart reports whether a set or a multiset is in another one.
func isPart(a, b api.Value) bool {
	_, rest := split(a, b)
	return len(rest) == 0
}

// isPrefix reports whether a sequence that is not longer than another one begins it.
func isPrefix(a, b api.Value) bool {
	return compareItems(a.Items, b.Items[:len(a.Items)]) == 0
}

// place returns the index of the first element or key that is equal to a value, or -1.
func place(v, wanted api.Value) int {
	found := -1
	step := stepOf(v.Kind)
search:
	for i := range len(v.Items) / step {
		switch compare(v.Items[i*step], wanted) {
		case 0:
			found = i * step
			break search
		}
	}
	return found
}

// joining returns the effect of an operation that joins two collections.
func joining(join func(a, b api.Value) api.Value) effect {
	return func(l []api.Value) (api.Value, api.Errno) { return join(l[0], l[1]), api.OK }
}

// gathering returns the effect of an operation that makes a collection of all elements of two ones.
func gathering(gather func([]api.Value) api.Value) effect {
	return joining(func(a, b api.Value) api.Value { return gather(slices.Concat(a.Items, b.Items)) })
}

func mapOfItems(items []api.Value) api.Value { return mapOf(entries(items)) }

// combinations returns the operations on two collections.
func combinations(op int) []operation {
	switch op {
	case api.EAdd:
		return []operation{on(api.VSeq, gathering(seqOf)), on(api.VSet, gathering(setOf)), on(api.VMulti, gathering(multiOf)), on(api.VMap, gathering(mapOfItems))}
	case api.ESub:
		return []operation{on(api.VSet, joining(difference)), on(api.VMulti, joining(difference)), {kinds: []int{api.VMap, api.VSet}, apply: joining(withoutKeys)}}
	case api.EMul:
		return []operation{on(api.VSet, joining(intersection)), on(api.VMulti, joining(intersection))}
	}
	return nil
}

func intersection(a, b api.Value) api.Value {
	common, _ := split(a, b)
	return api.Value{Kind: a.Kind, Items: common}
}

func difference(a, b api.Value) api.Value {
	_, rest := split(a, b)
	return api.Value{Kind: a.Kind, Items: rest}
}

// withoutKeys returns a map without the keys that are in a set.
func withoutKeys(m, keys api.Value) api.Value {
	return mapOf(slices.DeleteFunc(entries(m.Items), func(e entry) bool { return place(keys, e.key) >= 0 }))
}

// displays returns the operations that make collections of their arguments.
func displays(op int) []operation {
	makers := map[int]func([]api.Value) api.Value{api.ESeq: seqOf, api.ESet: setOf, api.EMulti: multiOf, api.EMap: mapOfItems}
	gather, found := makers[op]
	if !found {
		return nil
	}
	return []operation{{open: true, apply: func(l []api.Value) (api.Value, api.Errno) { return gather(l), api.OK }}}
}

// accesses returns the operations on a collection and its elements.
func accesses(op int) []operation {
	switch op {
	case api.EIn:
		return onCollections(deciding(func(a, b api.Value) bool { return place(b, a) >= 0 }), anything)
	case api.ECard:
		return onCollections(cardinality)
	case api.EIndex:
		return []operation{{kinds: []int{api.VSeq, api.VInt}, apply: element}, {kinds: []int{api.VMap, anything}, apply: entryOf},
			{kinds: []int{api.VMulti, anything}, apply: multiplicity}}
	case api.ESlice:
		return []operation{{kinds: []int{api.VSeq, api.VInt, api.VInt}, apply: slice}}
	case api.EUpdate:
		return []operation{{kinds: []int{api.VSeq, api.VInt, anything}, apply: withElement}, {kinds: []int{api.VMap, anything, anything}, apply: withEntry},
			{kinds: []int{api.VMulti, anything, api.VInt}, apply: withMultiplicity}}
	}
	return nil
}

// onCollections returns operations on any collection, behind arguments of other kinds.
func onCollections(apply effect, before ...int) []operation {
	var found []operation
	for _, kind := range []int{api.VSeq, api.VSet, api.VMulti, api.VMap} {
		found = append(found, operation{kinds: append(slices.Clone(before), kind), apply: apply})
	}
	return found
}

func cardinality(l []api.Value) (api.Value, api.Errno) {
	return integer(len(l[0].Items) / stepOf(l[0].Kind)), api.OK
}

// index returns the number of a value as one from 0 to a limit.
func index(v api.Value, limit int) (int, api.Errno) {
	n, e := num.ToInt(v.Num)
	if e != api.OK || n < 0 || n > limit {
		return 0, api.ErrIndex
	}
	return n, api.OK
}

func element(l []api.Value) (api.Value, api.Errno) {
	at, e := index(l[1], len(l[0].Items)-1)
	if e != api.OK {
		return api.Value{}, e
	}
	return l[0].Items[at], api.OK
}

func entryOf(l []api.Value) (api.Value, api.Errno) {
	at := place(l[0], l[1])
	if at < 0 {
		return api.Value{}, api.ErrKey
	}
	return l[0].Items[at+1], api.OK
}

func multiplicity(l []api.Value) (api.Value, api.Errno) {
	return integer(len(l[0].Items) - len(withoutElement(l[0], l[1]))), api.OK
}

// withoutElement returns the elements that differ from a value.
func withoutElement(v, element api.Value) []api.Value {
	return slices.DeleteFunc(slices.Clone(v.Items), func(item api.Value) bool { return equal(item, element) })
}

func slice(l []api.Value) (api.Value, api.Errno) {
	high, e := index(l[2], len(l[0].Items))
	if e != api.OK {
		return api.Value{}, e
	}
	low, e := index(l[1], high)
	if e != api.OK {
		return api.Value{}, e
	}
	return seqOf(l[0].Items[low:high]), api.OK
}

func withElement(l []api.Value) (api.Value, api.Errno) {
	at, e := index(l[1], len(l[0].Items)-1)
	if e != api.OK {
		return api.Value{}, e
	}
	items := slices.Clone(l[0].Items)
	items[at] = l[2]
	return seqOf(items), api.OK
}

func withEntry(l []api.Value) (api.Value, api.Errno) {
	return mapOf(append(entries(l[0].Items), entry{l[1], l[2]})), api.OK
}

func withMultiplicity(l []api.Value) (api.Value, api.Errno) {
	if isNegative(l[2].Num) {
		return api.Value{}, api.ErrRange
	}
	count, e := index(l[2], api.MaxItems)
	if e != api.OK {
		return api.Value{}, api.ErrMany
	}
	return multiOf(append(withoutElement(l[0], l[1]), slices.Repeat([]api.Value{l[1]}, count)...)), api.OK
}
