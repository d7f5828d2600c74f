package infer

import (
	"slices"
	"strings"

	"entail/api"
)

// pair is two types that are made equal.
type pair [2]*shape

// solver finds the types that variables stand for.
type solver struct {
	variables int
	bindings  map[int]*shape
}

// fresh returns a new variable.
func (s *solver) fresh() *shape {
	s.variables++
	return &shape{variable: s.variables}
}

// find returns what a variable is bound to, and every other type as it is.
func (s *solver) find(t *shape) *shape {
	for t.variable > 0 {
		bound, found := s.bindings[t.variable]
		if !found {
			break
		}
		t = bound
	}
	return t
}

// isLong reports whether a type is too long or nested too deep. What is not known counts 1.
func (s *solver) isLong(t *shape) bool {
	left := maxLength
	return !s.fits(t, api.MaxDepth, &left)
}

// fits takes the length of a type from what is left. It goes no further where nothing is.
func (s *solver) fits(t *shape, depth int, left *int) bool {
	t = s.find(t)
	*left -= max(len(t.head), 1)
	if len(t.args) > 0 {
		*left -= len(t.args) + 1
	}
	if depth == 0 || *left < 0 {
		return false
	}
	for _, arg := range t.args {
		if !s.fits(arg, depth-1, left) {
			return false
		}
	}
	return true
}

// isOpen reports whether a type that is not too long has variables.
func (s *solver) isOpen(t *shape) bool {
	t = s.find(t)
	return t.variable > 0 || slices.ContainsFunc(t.args, s.isOpen)
}

// text returns the string of a type that is neither too long nor open.
func (s *solver) text(t *shape) string {
	var text strings.Builder
	t.write(&text, s.find)
	return text.String()
}

// unify makes two types equal, or returns ErrLong or ErrType.
func (s *solver) unify(a, b *shape) api.Errno {
	switch {
	case s.isLong(a) || s.isLong(b):
		return api.ErrLong
	case !s.equate(pair{a, b}, map[pair]bool{}):
		return api.ErrType
	}
	return api.OK
}

// equate makes two types equal and reports whether this is possible. Types share parts, so that one pair may be met
// many times.
func (s *solver) equate(p pair, met map[pair]bool) bool {
	a, b := s.find(p[0]), s.find(p[1])
	p = pair{a, b}
	if p == (pair{b, a}) || met[p] {
		return true
	}
	met[p] = true
	switch {
	case a.variable > 0:
		return s.bind(a, b)
	case b.variable > 0:
		return s.bind(b, a)
	case a.head != b.head || len(a.args) != len(b.args):
		return false
	}
	for i := range len(a.args) {
		if !s.equate(pair{a.args[i], b.args[i]}, met) {
			return false
		}
	}
	return true
}

// bind binds a variable to a type that does not contain it.
func (s *solver) bind(v, t *shape) bool {
	if s.contains(t, v, map[*shape]bool{}) {
		return false
	}
	s.bindings[v.variable] = t
	return true
}

// contains reports whether a variable is in a type.
func (s *solver) contains(t, v *shape, met map[*shape]bool) bool {
	t = s.find(t)
	if t == v {
		return true
	}
	if len(t.args) == 0 || met[t] {
		return false
	}
	met[t] = true
	return slices.ContainsFunc(t.args, func(arg *shape) bool { return s.contains(arg, v, met) })
}
