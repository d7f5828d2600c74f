package model

import (
	"slices"

	"entail/api"
	"entail/list"
	"entail/term"
)

const maxAssigned = 100

// checkAssigned returns the first error of the names of variables that have values.
func checkAssigned(l []Assigned) api.Errno {
	if len(l) > maxAssigned {
		return api.ErrMany
	}
	seen := map[string]bool{}
	for _, a := range l {
		// A variable of any sort has its form, if its name is right.
		if e := term.CheckForm(term.Var(a.Name, api.SortBool)); e != api.OK {
			return e
		}
		if seen[a.Name] {
			return api.ErrTwice
		}
		seen[a.Name] = true
	}
	return api.OK
}

// prepared returns the sort of a term, and the values of its free variables.
func (in *interpretation) prepared(l []Assigned, t api.Terms) (string, map[string]int, api.Errno) {
	free, e := term.Free(t)
	if e != api.OK {
		return "", nil, e
	}
	given := map[string]api.Value{}
	for _, a := range l {
		given[a.Name] = a.Value
	}
	for _, v := range free {
		if _, found := given[v.Name]; !found {
			return "", nil, api.ErrUnknown
		}
	}
	sort, e := term.Check(in.sig, free, t)
	if e != api.OK {
		return "", nil, e
	}
	values := map[string]int{}
	for _, v := range free {
		value, is := in.taken(in.sort(v.Sort), given[v.Name])
		if !is {
			return "", nil, api.ErrType
		}
		values[v.Name] = value
	}
	return sort, values, api.OK
}

// checkFormulas returns the first error of a list of closed formulas.
func checkFormulas(sig api.Signature, l []api.Terms) api.Errno {
	if len(l) > maxFormulas {
		return api.ErrMany
	}
	for _, t := range l {
		sort, e := term.Check(sig, nil, t)
		switch {
		case e != api.OK:
			return e
		case sort != api.SortBool:
			return api.ErrSort
		}
	}
	return api.OK
}

// owned returns a copy of a value that shares no memory with it.
func owned(v api.Value) api.Value {
	v.Items = list.Transform(v.Items, owned)
	return v
}

func (e Entry) copied() Entry { return Entry{list.Transform(e.Args, owned), owned(e.Result)} }

func (t Table) copied() Table {
	return Table{t.Name, list.Transform(t.Entries, Entry.copied), owned(t.Default)}
}

func (d Domain) copied() Domain { return Domain{d.Sort, list.Transform(d.Values, owned)} }

// with returns a copy of a model with another entry in a table, in place of the one that has the arguments or behind all.
func with(m Model, table int, entry Entry) Model {
	out := Model{slices.Clone(m.Universes), list.Transform(m.Domains, Domain.copied), list.Transform(m.Tables, Table.copied)}
	t := &out.Tables[table]
	entry = entry.copied()
search:
	for i, old := range t.Entries {
		for j := range old.Args {
			if Compare(old.Args[j], entry.Args[j]) != 0 {
				continue search
			}
		}
		t.Entries[i] = entry
		return out
	}
	t.Entries = append(t.Entries, entry)
	return out
}
