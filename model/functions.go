package model

import (
	"slices"
	"strings"

	"entail/api"
	"entail/num"
)

const testWord = "is$"

// call is an application of a function that belongs to a sort.
type call struct {
	*world
	sort int
	args []int
}

// effect is what a function does.
type effect func(c call) (int, api.Errno)

// symbol is a function: the place of its table, or what it does.
type symbol struct {
	table  int
	sort   int
	effect effect
}

const noTable = -1

// symbol returns the function with a name that the signature has.
func (w *world) symbol(name string) symbol {
	s, known := w.symbols[name]
	if !known {
		s = w.find(name)
		w.symbols[name] = s
	}
	return s
}

func (w *world) find(name string) symbol {
	if table := slices.IndexFunc(w.sig.Funs, func(f api.Fun) bool { return f.Name == name }); table >= 0 {
		return symbol{table: table}
	}
	for data := range w.sig.Datas {
		if effect := w.findMade(name, data); effect != nil {
			return symbol{noTable, w.sort(w.sig.Datas[data].Sort), effect}
		}
	}
	word, of, _ := strings.Cut(name, "$")
	s := w.sort(of)
	return symbol{noTable, s, interpreted(w.sorts[s].kind, word)}
}

// findMade returns what a constructor, a selector or a test of a datatype does.
func (w *world) findMade(name string, data int) effect {
	for i, c := range w.sig.Datas[data].Cons {
		switch {
		case c.Name == name:
			return func(o call) (int, api.Errno) { return o.pool.made(name, slices.Clone(o.args)), api.OK }
		case testWord+c.Name == name:
			return func(o call) (int, api.Errno) { return truth(o.values[o.args[0]].text == c.Name), api.OK }
		}
		if field := slices.IndexFunc(c.Fields, func(f api.Bound) bool { return f.Name == name }); field >= 0 {
			return selector(w.made(data)[i], field)
		}
	}
	return nil
}

// selector returns what the selector of a field does.
func selector(of constructor, field int) effect {
	return func(c call) (int, api.Errno) {
		if v := c.values[c.args[0]]; v.text == of.name {
			return v.items[field], api.OK
		}
		return c.zero(of.fields[field]), api.OK
	}
}

// interpreted returns what the function does that each sort of a kind has.
func interpreted(kind int, word string) effect {
	table := []struct {
		kind  int
		word  string
		apply effect
	}{
		{anInt, "div", quotient}, {anInt, "mod", remainder}, {anInt, "real", fraction}, {aReal, "floor", floor},
		{aMap, "select", selected}, {aMap, "store", storing}, {aMap, "const", constant}, {aMap, "diff", mapDifference},
		{aSeq, "len", size}, {aSeq, "at", element}, {aSeq, "empty", empty(api.VSeq)}, {aSeq, "one", one(api.VSeq)}, {aSeq, "cat", concatenation},
		{aSeq, "put", putting}, {aSeq, "cut", cutting}, {aSeq, "pre", prefix}, {aSeq, "diff", sequenceDifference},
		{aSet, "has", membership}, {aSet, "empty", empty(api.VSet)}, {aSet, "one", one(api.VSet)}, {aSet, "join", union}, {aSet, "meet", intersection},
		{aSet, "less", difference}, {aSet, "sub", subset}, {aSet, "size", size}, {aSet, "diff", setDifference},
	}
	for _, row := range table {
		if row.kind == kind && row.word == word {
			return row.apply
		}
	}
	return nil
}

func (c call) arg(i int) stored { return c.values[c.args[i]] }

// part returns a sort in the brackets of the sort that the function belongs to.
func (c call) part(i int) int { return c.sorts[c.sort].parts[i] }

// counted returns an integer as a result.
func (c call) counted(n int) (int, api.Errno) { return c.number(api.VInt, num.FromInt(n)), api.OK }

// divided returns the quotient and the remainder, or zeros if the divisor is 0.
func (c call) divided() [2]string {
	q, r, e := num.DivMod(c.arg(0).num, c.arg(1).num)
	if e != api.OK {
		return [2]string{"0", "0"}
	}
	return [2]string{q, r}
}

func quotient(c call) (int, api.Errno) { return c.number(api.VInt, c.divided()[0]), api.OK }

func remainder(c call) (int, api.Errno) { return c.number(api.VInt, c.divided()[1]), api.OK }

func fraction(c call) (int, api.Errno) {
	s, e := num.Real(c.arg(0).num, "1")
	return c.number(api.VReal, s), e
}

func floor(c call) (int, api.Errno) {
	s, e := num.Floor(c.arg(0).num)
	return c.number(api.VInt, s), e
}

// valueAt returns the value of a map at a key.
func (p *pool) valueAt(m, key int) int {
	items := p.values[m].items
	for i := 1; i < len(items); i += 2 {
		if items[i] == key {
			return items[i+1]
		}
	}
	return items[0]
}

func selected(c call) (int, api.Errno) { return c.valueAt(c.args[0], c.args[1]), api.OK }

func storing(c call) (int, api.Errno) {
	items := c.arg(0).items
	entries := map[int]int{}
	for i := 1; i < len(items); i += 2 {
		entries[items[i]] = items[i+1]
	}
	entries[c.args[1]] = c.args[2]
	return c.mapOf(c.sort, entries, items[0]), api.OK
}

func constant(c call) (int, api.Errno) { return c.list(api.VMap, []int{c.args[0]}), api.OK }

// mapDifference returns the first key of a list at which two maps differ: of all keys, if there are few, otherwise of
// those that one of them has, and then of those that none of them has.
func mapDifference(c call) (int, api.Errno) {
	a, b := c.args[0], c.args[1]
	if a == b {
		return c.zero(c.part(0)), api.OK
	}
	keys := c.all(c.part(0))
	if !c.isSmall(c.part(0)) {
		keys = slices.Concat(c.keysOf(a, b), keys)
	}
	for _, key := range keys {
		if c.valueAt(a, key) != c.valueAt(b, key) {
			return key, api.OK
		}
	}
	return c.zero(c.part(0)), api.OK
}

// keysOf returns the keys of some maps, ascending.
func (p *pool) keysOf(maps ...int) []int {
	var keys []int
	for _, m := range maps {
		items := p.values[m].items
		for i := 1; i < len(items); i += 2 {
			keys = append(keys, items[i])
		}
	}
	slices.SortFunc(keys, p.compare)
	return keys
}

func size(c call) (int, api.Errno) { return c.counted(len(c.arg(0).items)) }

func empty(kind int) effect {
	return func(c call) (int, api.Errno) { return c.list(kind, nil), api.OK }
}

func one(kind int) effect {
	return func(c call) (int, api.Errno) { return c.list(kind, []int{c.args[0]}), api.OK }
}

// place returns an argument that is an integer as a place from 0 to a greatest one. What is below is 0, what is above is
// the greatest one.
func (c call) place(i, most int) int {
	n, e := num.ToInt(c.arg(i).num)
	switch {
	case c.arg(i).num[0] == '-':
		return 0
	case e != api.OK:
		return most
	}
	return min(n, most)
}

// index returns an argument as an index of a sequence, and whether it is one.
func (c call) index(i, length int) (int, bool) {
	n, e := num.ToInt(c.arg(i).num)
	return n, e == api.OK && 0 <= n && n < length
}

func element(c call) (int, api.Errno) {
	items := c.arg(0).items
	if i, is := c.index(1, len(items)); is {
		return items[i], api.OK
	}
	return c.zero(c.part(0)), api.OK
}

func concatenation(c call) (int, api.Errno) {
	return c.list(api.VSeq, slices.Concat(c.arg(0).items, c.arg(1).items)), api.OK
}

func putting(c call) (int, api.Errno) {
	items := slices.Clone(c.arg(0).items)
	i, is := c.index(1, len(items))
	if !is {
		return c.args[0], api.OK
	}
	items[i] = c.args[2]
	return c.list(api.VSeq, items), api.OK
}

func cutting(c call) (int, api.Errno) {
	items := c.arg(0).items
	from, to := c.place(1, len(items)), c.place(2, len(items))
	return c.list(api.VSeq, slices.Clone(items[from:max(from, to)])), api.OK
}

func prefix(c call) (int, api.Errno) {
	a, b := c.arg(0).items, c.arg(1).items
	return truth(len(a) <= len(b) && slices.Equal(a, b[:len(a)])), api.OK
}

func sequenceDifference(c call) (int, api.Errno) {
	a, b := c.arg(0).items, c.arg(1).items
	if c.args[0] == c.args[1] {
		return c.counted(0)
	}
	at := 0
	for at < min(len(a), len(b)) && a[at] == b[at] {
		at++
	}
	return c.counted(at)
}

// members returns the members of the first set that are in the second one, or those that are not.
func (c call) members(first, second int, in bool) []int {
	var out []int
	for _, item := range c.arg(first).items {
		if slices.Contains(c.arg(second).items, item) == in {
			out = append(out, item)
		}
	}
	return out
}

func membership(c call) (int, api.Errno) {
	return truth(slices.Contains(c.arg(0).items, c.args[1])), api.OK
}

func union(c call) (int, api.Errno) {
	return c.setOf(slices.Concat(c.arg(0).items, c.members(1, 0, false))), api.OK
}

func intersection(c call) (int, api.Errno) { return c.setOf(c.members(0, 1, true)), api.OK }

func difference(c call) (int, api.Errno) { return c.setOf(c.members(0, 1, false)), api.OK }

func subset(c call) (int, api.Errno) { return truth(len(c.members(0, 1, false)) == 0), api.OK }

func setDifference(c call) (int, api.Errno) {
	items := slices.Concat(c.members(0, 1, false), c.members(1, 0, false))
	if len(items) == 0 {
		return c.zero(c.part(0)), api.OK
	}
	return slices.MinFunc(items, c.compare), api.OK
}
