package model

import (
	"slices"

	"entail/api"
	"entail/list"
	"entail/term"
)

// The kinds of sorts.
const (
	aBool = iota
	anInt
	aReal
	aSort
	aData
	aSeq
	aSet
	aMap
)

// sort is a sort that is taken apart: an uninterpreted sort has a size, a datatype an index, and the others have the
// sorts in their brackets.
type sort struct {
	name  string
	kind  int
	size  int
	data  int
	parts []int
}

// constructor is a constructor with the sorts of its fields.
type constructor struct {
	name   string
	fields []int
}

// world is a signature whose uninterpreted sorts have sizes, and the values of its sorts.
type world struct {
	*pool
	sig          api.Signature
	sorts        []sort
	places       map[string]int
	constructors map[int][]constructor // by datatypes
	zeros        map[int]int           // likewise
	lists        map[scope][]int
	counts       map[scope]int
	checked      map[[2]int]bool
	symbols      map[string]symbol
}

// newWorld returns the world of a signature that is right. It has a size for each uninterpreted sort.
func newWorld(sig api.Signature, sizes []int) *world {
	w := &world{pool: newPool(), sig: sig, places: map[string]int{}, constructors: map[int][]constructor{}, lists: map[scope][]int{},
		counts: map[scope]int{}, checked: map[[2]int]bool{}, symbols: map[string]symbol{}}
	for i, name := range []string{api.SortBool, api.SortInt, api.SortReal} {
		w.add(name, sort{kind: i})
	}
	for i, name := range sig.Sorts {
		w.add(name, sort{kind: aSort, size: sizes[i]})
	}
	for i, d := range sig.Datas {
		w.add(d.Sort, sort{kind: aData, data: i})
	}
	return w
}

// worldOf returns the world of a signature with one size for all uninterpreted sorts, or the error of the signature.
func worldOf(sig api.Signature, size int) (*world, api.Errno) {
	if e := term.CheckSignature(sig); e != api.OK {
		return nil, e
	}
	return newWorld(sig, slices.Repeat([]int{size}, len(sig.Sorts))), api.OK
}

func (w *world) add(name string, s sort) int {
	place := len(w.sorts)
	s.name = name
	w.places[name] = place
	w.sorts = append(w.sorts, s)
	return place
}

// sort returns the place of a sort of the signature.
func (w *world) sort(name string) int {
	place, found := w.places[name]
	if !found {
		word, parts := brackets(name)
		kinds := map[string]int{"Seq": aSeq, "Set": aSet, "Map": aMap}
		place = w.add(name, sort{kind: kinds[word], parts: list.Transform(parts, w.sort)})
	}
	return place
}

// sortOf returns the place of a sort, or ErrSort for a string that is none.
func (w *world) sortOf(name string) (int, api.Errno) {
	if place, found := w.places[name]; found {
		return place, api.OK
	}
	if _, _, e := term.Parts(w.sig, name); e != api.OK {
		return 0, e
	}
	return w.sort(name), api.OK
}

// brackets returns the word before the brackets of a sort, and the sorts in them.
func brackets(name string) (string, []string) {
	var parts []string
	word, depth, from := "", 0, 0
	for i, c := range name {
		switch {
		case c == '<':
			if depth == 0 {
				word, from = name[:i], i+1
			}
			depth++
		case c == '>' && depth == 1, c == ',' && depth == 1:
			parts = append(parts, name[from:i])
			from = i + 1
			if c == '>' {
				depth--
			}
		case c == '>':
			depth--
		}
	}
	return word, parts
}

// made returns the constructors of a datatype.
func (w *world) made(data int) []constructor {
	found, known := w.constructors[data]
	if !known {
		fieldSort := func(f api.Bound) int { return w.sort(f.Sort) }
		found = list.Transform(w.sig.Datas[data].Cons, func(c api.Cons) constructor {
			return constructor{c.Name, list.Transform(c.Fields, fieldSort)}
		})
		w.constructors[data] = found
	}
	return found
}

// zero returns the zero of a sort.
func (w *world) zero(s int) int {
	if w.zeros == nil {
		w.fillZeros()
	}
	zero, _ := w.zeroSoFar(s)
	return zero
}

// fillZeros finds the zeros of the datatypes, round by round.
func (w *world) fillZeros() {
	w.zeros = map[int]int{}
	for range w.sig.Datas {
		found := map[int]int{}
		for data := range w.sig.Datas {
			if _, known := w.zeros[data]; known {
				continue
			}
			if zero, is := w.firstZero(data); is {
				found[data] = zero
			}
		}
		for data, zero := range found {
			w.zeros[data] = zero
		}
	}
}

// firstZero returns the application of the first constructor of a datatype all of whose fields have zeros.
func (w *world) firstZero(data int) (int, bool) {
next:
	for _, c := range w.made(data) {
		var items []int
		for _, field := range c.fields {
			zero, found := w.zeroSoFar(field)
			if !found {
				continue next
			}
			items = append(items, zero)
		}
		return w.pool.made(c.name, items), true
	}
	return 0, false
}

// zeroSoFar returns the zero of a sort, if the zeros of the datatypes that are known by now give one.
func (w *world) zeroSoFar(s int) (int, bool) {
	switch of := w.sorts[s]; of.kind {
	case aBool:
		return no, true
	case anInt:
		return w.number(api.VInt, "0"), true
	case aReal:
		return w.number(api.VReal, "0/1"), true
	case aSort:
		return w.number(api.VRef, "0"), true
	case aSeq:
		return w.list(api.VSeq, nil), true
	case aSet:
		return w.list(api.VSet, nil), true
	case aMap:
		zero, found := w.zeroSoFar(of.parts[1])
		if !found {
			return 0, false
		}
		return w.list(api.VMap, []int{zero}), true
	default:
		zero, found := w.zeros[of.data]
		return zero, found
	}
}
