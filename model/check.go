package model

import (
	"slices"

	"entail/api"
	"entail/list"
	"entail/term"
)

const (
	maxDomain  = 50
	maxEntries = 300
)

// results are what a function has as its results: for the arguments that are listed, by their keys, and for all others.
type results struct {
	args    []int
	sort    int
	entries map[string]int
	other   int
}

// interpretation is a model of a signature, both of which are right.
type interpretation struct {
	*world
	domains map[int][]int
	tables  []results
	buffer  []byte
}

// load returns the interpretation that a model gives, or the first error of the signature or the model.
func load(sig api.Signature, m Model) (*interpretation, api.Errno) {
	e := term.CheckSignature(sig)
	switch {
	case e != api.OK:
		return nil, e
	case len(m.Universes) != len(sig.Sorts) || len(m.Tables) != len(sig.Funs):
		return nil, api.ErrShape
	}
	if e := checkUniverses(sig, m); e != api.OK {
		return nil, e
	}
	sizes := list.Transform(m.Universes, func(u Universe) int { return u.Size })
	in := &interpretation{world: newWorld(sig, sizes), domains: map[int][]int{}}
	for _, d := range m.Domains {
		if e := in.loadDomain(d); e != api.OK {
			return nil, e
		}
	}
	for i, t := range m.Tables {
		if e := in.loadTable(sig.Funs[i], t); e != api.OK {
			return nil, e
		}
	}
	return in, api.OK
}

// checkUniverses returns the error of the first universe with one.
func checkUniverses(sig api.Signature, m Model) api.Errno {
	for i, u := range m.Universes {
		switch {
		case u != Universe{sig.Sorts[i], u.Size}:
			return api.ErrName
		case u.Size < 1 || u.Size > MaxSize:
			return api.ErrRange
		}
	}
	return api.OK
}

// loadDomain adds a domain, or returns its first error.
func (in *interpretation) loadDomain(d Domain) api.Errno {
	s, e := in.sortOf(d.Sort)
	if e != api.OK {
		return e
	}
	_, twice := in.domains[s]
	switch {
	case in.isSmall(s):
		return api.ErrKind
	case twice:
		return api.ErrTwice
	case len(d.Values) == 0:
		return api.ErrEmpty
	case len(d.Values) > maxDomain:
		return api.ErrMany
	}
	var values []int
	for _, v := range d.Values {
		value, is := in.taken(s, v)
		switch {
		case !is:
			return api.ErrType
		case slices.Contains(values, value):
			return api.ErrTwice
		}
		values = append(values, value)
	}
	in.domains[s] = values
	return api.OK
}

// newResults returns the results of a function before there are any.
func (w *world) newResults(f api.Fun) results {
	return results{list.Transform(f.Args, w.sort), w.sort(f.Sort), map[string]int{}, no}
}

// loadTable adds the table of a function, or returns its first error.
func (in *interpretation) loadTable(f api.Fun, t Table) api.Errno {
	switch {
	case t.Name != f.Name:
		return api.ErrName
	case len(t.Entries) > maxEntries:
		return api.ErrMany
	}
	r := in.newResults(f)
	for _, entry := range t.Entries {
		if e := in.loadEntry(r, entry); e != api.OK {
			return e
		}
	}
	other, is := in.taken(r.sort, t.Default)
	if !is {
		return api.ErrType
	}
	r.other = other
	in.tables = append(in.tables, r)
	return api.OK
}

// loadEntry adds an entry to the results of a function, or returns its first error.
func (in *interpretation) loadEntry(r results, entry Entry) api.Errno {
	args, e := in.takenAll(r.args, entry.Args)
	if e != api.OK {
		return e
	}
	result, is := in.taken(r.sort, entry.Result)
	if !is {
		return api.ErrType
	}
	key := in.key(args)
	if _, twice := r.entries[key]; twice {
		return api.ErrTwice
	}
	r.entries[key] = result
	return api.OK
}

// takenAll puts the arguments of a function, or returns their first error.
func (w *world) takenAll(sorts []int, args []api.Value) ([]int, api.Errno) {
	if len(args) != len(sorts) {
		return nil, api.ErrArgs
	}
	var out []int
	for i, v := range args {
		place, is := w.taken(sorts[i], v)
		if !is {
			return nil, api.ErrType
		}
		out = append(out, place)
	}
	return out, api.OK
}

// key returns the text by which the results for some arguments are found.
func (in *interpretation) key(args []int) string {
	in.buffer = in.buffer[:0]
	for _, arg := range args {
		in.buffer = append(in.buffer, byte(arg), byte(arg>>8), byte(arg>>16), byte(arg>>24))
	}
	return string(in.buffer)
}

// result returns the result of a function for some arguments.
func (in *interpretation) result(table int, args []int) int {
	r := &in.tables[table]
	if result, found := r.entries[in.key(args)]; found {
		return result
	}
	return r.other
}

// rangeOf returns the values over which a quantifier ranges, and whether the sort is small.
func (in *interpretation) rangeOf(s int) ([]int, bool) {
	if in.isSmall(s) {
		return in.all(s), true
	}
	if values, found := in.domains[s]; found {
		return values, false
	}
	return []int{in.zero(s)}, false
}

// apply returns the result of a function for values; that of a table is chosen by a function. Elements of sorts and zeros
// may be too large to be values.
func (in *interpretation) apply(s symbol, args []int, choose func(table int, args []int) int) (int, api.Errno) {
	if slices.ContainsFunc(args, in.isTooLarge) {
		return 0, api.ErrType
	}
	if s.table != noTable {
		return choose(s.table, args), api.OK
	}
	result, e := s.effect(call{in.world, s.sort, args})
	switch {
	case e != api.OK:
		return 0, e
	case in.isTooLarge(result):
		return 0, api.ErrLarge
	}
	return result, api.OK
}
