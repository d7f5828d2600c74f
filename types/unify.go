package types

import (
	"slices"

	"entail/api"
	"entail/list"
)

// pair is two types that are unified.
type pair [2]string

func (p pair) swapped() pair { return pair{p[1], p[0]} }

// unifier finds bindings of variables.
type unifier struct {
	vars  []string
	bound map[string]shape
}

// place returns the place of a type in the list of variables, or -1.
func (u unifier) place(s shape) int {
	return slices.IndexFunc(u.vars, s.is)
}

// binding returns the binding of a variable, or nothing.
func (u unifier) binding(name string) Binding {
	s, found := u.bound[name]
	if !found {
		return Binding{}
	}
	return Binding{name, s.String()}
}

// unify makes two types equal, and reports whether this is possible.
func (u unifier) unify(a, b shape) (bool, api.Errno) {
	a, b = a.put(u.bound), b.put(u.bound)
	if e := list.FirstError(list.Transform([]shape{a, b}, shape.fits)...); e != api.OK {
		return false, e
	}
	if both := (pair{a.String(), b.String()}); both == both.swapped() {
		return true, api.OK
	}
	left, right := u.place(a), u.place(b)
	switch {
	case left >= 0 && (right < 0 || left < right):
		return u.bind(a.head, b)
	case right >= 0:
		return u.bind(b.head, a)
	case a.head != b.head || len(a.args) != len(b.args):
		return false, api.OK
	}
	for i := range len(a.args) {
		if same, e := u.unify(a.args[i], b.args[i]); !same {
			return false, e
		}
	}
	return true, api.OK
}

// bind binds a variable to a type, also in the types of earlier bindings.
func (u unifier) bind(name string, s shape) (bool, api.Errno) {
	if s.contains(name) {
		return false, api.OK
	}
	u.bound[name] = s
	for _, v := range u.vars {
		earlier, found := u.bound[v]
		if !found {
			continue
		}
		u.bound[v] = earlier.put(map[string]shape{name: s})
		if e := u.bound[v].fits(); e != api.OK {
			return false, e
		}
	}
	return true, api.OK
}
