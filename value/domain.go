package value

import (
	"iter"
	"slices"

	"entail/api"
	"entail/num"
	"entail/types"
)

// maxListed is the greatest width of bit vectors that are all in their domain.
const maxListed = 4

// scope is a type and a size.
type scope struct {
	typ  string
	size int
}

// domains are the domains that were listed already.
type domains struct {
	catalog
	lists map[scope][]api.Value
}

// collector is a list of values that has room for no more than a domain.
type collector struct {
	list []api.Value
}

// add appends a value and reports whether there is room for another one.
func (c *collector) add(v api.Value) bool {
	c.list = append(c.list, v)
	return len(c.list) < MaxDomain
}

// of returns the domain of a type; below the size 0 it is empty.
func (d domains) of(typ string, size int) []api.Value {
	if size < 0 {
		return nil
	}
	wanted := scope{typ, size}
	list, found := d.lists[wanted]
	if !found {
		list = d.list(d.meaning(typ), size)
		d.lists[wanted] = list
	}
	return list
}

// list returns the domain of a type with a meaning.
func (d domains) list(m meaning, size int) []api.Value {
	switch m.op {
	case api.TBool:
		return []api.Value{truthOf(false), truthOf(true)}
	case api.TInt:
		return integers(size)
	case api.TReal:
		return fractions(size)
	case api.TBits:
		return vectors(m.width, size)
	case api.TSeq:
		return d.collections(seqOf, m, size, func(int) int { return 0 })
	case api.TSet:
		return d.collections(setOf, m, size, func(before int) int { return before + 1 })
	case api.TMulti:
		return d.collections(multiOf, m, size, func(before int) int { return before })
	case api.TMap:
		return d.maps(m, size)
	case aDatatype:
		return d.constructed(m, size)
	}
	return nil
}

// integers returns the integers up to a size, each one before its negative.
func integers(size int) []api.Value {
	list := []api.Value{integer(0)}
	for i := range size {
		list = append(list, integer(i+1), integer(-i-1))
	}
	return list
}

func fractions(size int) []api.Value {
	var list []api.Value
	for _, n := range integers(size) {
		list = append(list, api.Value{Kind: api.VReal, Num: n.Num + "/1"})
	}
	if size > 0 {
		list = append(list, api.Value{Kind: api.VReal, Num: "1/2"}, api.Value{Kind: api.VReal, Num: "-1/2"})
	}
	return list
}

// vectors returns bit vectors: all of a small width, or the least ones and the greatest one.
func vectors(width string, size int) []api.Value {
	var list []api.Value
	last := size
	if w := widthOf(width); w <= maxListed {
		last = 1<<w - 1
	}
	for i := range last + 1 {
		list = append(list, api.Value{Kind: api.VBits, Num: num.FromInt(i), Text: width})
	}
	if widthOf(width) > maxListed && size > 0 {
		greatest, _ := bits(num.BitSub, width, "0", "1")
		list = append(list, api.Value{Kind: api.VBits, Num: greatest, Text: width})
	}
	return list
}

// positions visits lists of positions, each one below its count, in lexicographic order. The position before another
// one says how small that one can be.
func positions(counts []int, least func(before int) int) iter.Seq[[]int] {
	return func(yield func([]int) bool) {
		extend(nil, counts, least, yield)
	}
}

// extend visits the lists that begin with some positions, and reports whether the visit goes on.
func extend(taken, counts []int, least func(before int) int, yield func([]int) bool) bool {
	n := len(taken)
	if n == len(counts) {
		return yield(taken)
	}
	low := 0
	if n > 0 {
		low = least(taken[n-1])
	}
	for at := low; at < counts[n]; at++ {
		if !extend(append(taken, at), counts, least, yield) {
			return false
		}
	}
	return true
}

// pick returns the values at some positions.
func pick(list []api.Value, positions []int) []api.Value {
	var out []api.Value
	for _, at := range positions {
		out = append(out, list[at])
	}
	return out
}

// collections returns the domain of a type of collections with one argument, by their lengths.
func (d domains) collections(gather func([]api.Value) api.Value, m meaning, size int, least func(before int) int) []api.Value {
	elements := d.of(m.args[0], size-1)
	var c collector
	for length := range size + 1 {
		for taken := range positions(slices.Repeat([]int{len(elements)}, length), least) {
			if !c.add(gather(pick(elements, taken))) {
				return c.list
			}
		}
	}
	return c.list
}

// maps returns the domain of a type of maps: by their keys, then by their values.
func (d domains) maps(m meaning, size int) []api.Value {
	keys, values := d.of(m.args[0], size-1), d.of(m.args[1], size-1)
	var c collector
	for length := range size + 1 {
		for left := range positions(slices.Repeat([]int{len(keys)}, length), func(before int) int { return before + 1 }) {
			for right := range positions(slices.Repeat([]int{len(values)}, length), func(int) int { return 0 }) {
				var list []entry
				for i := range length {
					list = append(list, entry{keys[left[i]], values[right[i]]})
				}
				if !c.add(mapOf(list)) {
					return c.list
				}
			}
		}
	}
	return c.list
}

// constructed returns the domain of a datatype.
func (d domains) constructed(m meaning, size int) []api.Value {
	var c collector
	for i, k := range m.constructors {
		again := slices.ContainsFunc(m.constructors[:i], func(o api.Cons) bool { return o.Name == k.Name })
		for _, v := range d.madeBy(k, size) {
			// Values differ, unless two constructors have one name.
			if again && slices.ContainsFunc(c.list, func(o api.Value) bool { return equal(o, v) }) {
				continue
			}
			if !c.add(v) {
				return c.list
			}
		}
	}
	return c.list
}

// madeBy returns the first values that a constructor makes.
func (d domains) madeBy(k api.Cons, size int) []api.Value {
	var fields [][]api.Value
	var counts []int
	for _, f := range k.Fields {
		values := d.of(f.Sort, size-1)
		if len(values) == 0 {
			return nil
		}
		fields = append(fields, values)
		counts = append(counts, len(values))
	}
	var c collector
	for taken := range positions(counts, func(int) int { return 0 }) {
		v := api.Value{Kind: api.VCons, Text: k.Name}
		for i, at := range taken {
			v.Items = append(v.Items, fields[i][at])
		}
		if !c.add(v) {
			break
		}
	}
	return c.list
}

// isComplete reports whether the domain of a base type has all values.
func isComplete(p api.Tree, base string) bool {
	finite, e := types.Finite(p, base)
	return finite && e == api.OK
}
