package term

import (
	"slices"

	"entail/api"
	"entail/list"
)

const (
	maxSorts        = 100
	maxDatas        = 50
	maxFuns         = 1000
	maxConstructors = 20
	maxArguments    = 20
)

// signature is a signature with its catalog.
type signature struct {
	api.Signature
	catalog
}

// checkCount returns ErrMany for too many elements.
func checkCount(n, most int) api.Errno {
	if n > most {
		return api.ErrMany
	}
	return api.OK
}

// catalogOf returns the catalog of a signature, or its first error.
func catalogOf(sig api.Signature) (*catalog, api.Errno) {
	if e := list.FirstError(checkCount(len(sig.Sorts), maxSorts), checkCount(len(sig.Datas), maxDatas), checkCount(len(sig.Funs), maxFuns)); e != api.OK {
		return nil, e
	}
	s := signature{sig, catalog{map[string]string{}, map[string]parted{}, map[string]api.Fun{}}}
	for _, check := range []func() api.Errno{s.checkNames, s.checkDatas, s.checkFuns, s.checkCycles} {
		if e := check(); e != api.OK {
			return nil, e
		}
	}
	return &s.catalog, api.OK
}

// checkNames adds the declared sorts, or returns the first error of their names.
func (s signature) checkNames() api.Errno {
	for _, name := range s.Sorts {
		if e := s.declare(name, aSort); e != api.OK {
			return e
		}
	}
	for _, d := range s.Datas {
		if e := s.declare(d.Sort, aData); e != api.OK {
			return e
		}
	}
	return api.OK
}

// declare adds a declared sort.
func (s signature) declare(name, kind string) api.Errno {
	if !isDeclarable(name) {
		return api.ErrName
	}
	if _, twice := s.declared[name]; twice {
		return api.ErrTwice
	}
	s.declared[name] = kind
	return api.OK
}

// checkDatas adds the functions of the datatypes, or returns the first error.
func (s signature) checkDatas() api.Errno {
	names := map[string]bool{}
	for _, d := range s.Datas {
		if len(d.Cons) == 0 {
			return api.ErrEmpty
		}
		if len(d.Cons) > maxConstructors {
			return api.ErrMany
		}
		for _, made := range d.Cons {
			if e := s.checkConstructor(made, names); e != api.OK {
				return e
			}
		}
	}
	for _, d := range s.Datas {
		for _, made := range d.Cons {
			if names[testWord+made.Name] {
				return api.ErrTwice
			}
		}
		s.addConstructors(d)
	}
	return api.OK
}

// checkConstructor returns the first error of a constructor, and adds the names of it and of its fields.
func (s signature) checkConstructor(made api.Cons, names map[string]bool) api.Errno {
	if len(made.Fields) > maxArguments {
		return api.ErrMany
	}
	if e := s.checkSymbol(made.Name, names[made.Name]); e != api.OK {
		return e
	}
	names[made.Name] = true
	for _, f := range made.Fields {
		if e := list.FirstError(s.checkSymbol(f.Name, names[f.Name]), s.checkSort(f.Sort)); e != api.OK {
			return e
		}
		names[f.Name] = true
	}
	return api.OK
}

// checkFuns adds the functions, or returns the first error.
func (s signature) checkFuns() api.Errno {
	for _, f := range s.Funs {
		e := list.FirstError(s.checkSymbol(f.Name, s.has(f.Name)), checkCount(len(f.Args), maxArguments))
		if e == api.OK {
			e = list.FirstError(list.Transform(append(slices.Clone(f.Args), f.Sort), s.checkSort)...)
		}
		if e != api.OK {
			return e
		}
		s.add(f.Name, f.Sort, f.Args...)
	}
	return api.OK
}

// checkCycles returns ErrCycle if a datatype has no finite element, or has itself as a key of a map in it.
func (s signature) checkCycles() api.Errno {
	finite := map[string]bool{}
	for range s.Datas {
		for _, d := range s.Datas {
			finite[d.Sort] = slices.ContainsFunc(d.Cons, func(made api.Cons) bool {
				return !slices.ContainsFunc(made.Fields, func(f api.Bound) bool { return !s.isFinite(f.Sort, finite) })
			})
		}
	}
	// If a key sort reaches a datatype that reaches the map, all datatypes in the key reach it, too: one of them is a
	// key of a map that it reaches itself.
	reach := s.reach()
	for _, d := range s.Datas {
		if !finite[d.Sort] || reach[d.Sort].keys[d.Sort] {
			return api.ErrCycle
		}
	}
	return api.OK
}

// isFinite reports whether a sort has a finite element, as far as datatypes are known to have one.
func (s signature) isFinite(sort string, finite map[string]bool) bool {
	switch p, _ := s.parts(sort); p.kind {
	case aData:
		return finite[sort]
	case aMap:
		return s.isFinite(p.parts[1], finite)
	}
	return true
}

// datas returns the datatypes in a sort, and those in the keys of the maps in it.
func (s signature) datas(sort string) (datas, keys []string) {
	p, _ := s.parts(sort)
	if p.kind == aData {
		return []string{sort}, nil
	}
	for i, part := range p.parts {
		inside, more := s.datas(part)
		datas = append(datas, inside...)
		keys = append(keys, more...)
		if p.kind == aMap && i == 0 {
			keys = append(keys, inside...)
		}
	}
	return datas, keys
}

// reached is what a datatype reaches: datatypes, and those in the keys of maps.
type reached struct {
	datas, keys map[string]bool
}

// take adds what a sort reaches by its parts, and reports whether there was something new.
func (r reached) take(datas, keys []string) bool {
	before := [2]int{len(r.datas), len(r.keys)}
	for _, name := range datas {
		r.datas[name] = true
	}
	for _, key := range keys {
		r.keys[key] = true
	}
	return before != [2]int{len(r.datas), len(r.keys)}
}

// reach returns what each datatype reaches.
func (s signature) reach() map[string]reached {
	reach := map[string]reached{}
	for _, d := range s.Datas {
		r := reached{map[string]bool{}, map[string]bool{}}
		for _, made := range d.Cons {
			for _, f := range made.Fields {
				r.take(s.datas(f.Sort))
			}
		}
		reach[d.Sort] = r
	}
	for changed := true; changed; {
		changed = false
		for _, d := range s.Datas {
			for _, other := range keysOf(reach[d.Sort].datas) {
				if reach[d.Sort].take(keysOf(reach[other].datas), keysOf(reach[other].keys)) {
					changed = true
				}
			}
		}
	}
	return reach
}

// keysOf returns the keys of a map.
func keysOf(m map[string]bool) []string {
	var keys []string
	for key := range m {
		keys = append(keys, key)
	}
	slices.Sort(keys)
	return keys
}
