package types

import (
	"slices"

	"entail/api"
	"entail/list"
	"entail/tree"
)

// maxReached is the greatest number of types that are looked at to find a value.
const maxReached = 200

// way is a way to have a value of a type: the name of a constructor, and the types whose values it takes.
type way struct {
	name  string
	needs []string
}

// reached is a type that the rules reach: all its ways, and the round in which a value was found, or 0.
type reached struct {
	shape
	ways  []way
	round int
}

// world is the types that the rules reach from one type.
type world struct {
	program
	names []string
	types map[string]*reached
	sizes map[string]int
}

// worldOf finds the types that are reached, and those that have values.
func (p program) worldOf(s shape) (*world, api.Errno) {
	w := &world{p, nil, map[string]*reached{}, map[string]int{}}
	w.reach(s)
	for i := 0; i < len(w.names); i++ {
		if i == maxReached {
			return nil, api.ErrLimit
		}
		if e := w.explore(w.types[w.names[i]]); e != api.OK {
			return nil, e
		}
	}
	w.fill()
	return w, api.OK
}

// reach adds a type and returns its string.
func (w *world) reach(s shape) string {
	name := s.String()
	if w.types[name] == nil {
		w.types[name] = &reached{shape: s}
		w.names = append(w.names, name)
	}
	return name
}

// explore finds the ways of a type.
func (w *world) explore(r *reached) api.Errno {
	base, e := w.base(r.shape)
	if e != api.OK {
		return e
	}
	if b, _, found := builtinOf(r.head); found {
		if b.standard != nil {
			r.ways = []way{{}}
		}
		return api.OK
	}
	switch d, _ := w.find(r.head); d.Op {
	case api.DSubset:
		r.ways = []way{{needs: []string{w.reach(base)}}}
	case api.DDatatype:
		constructors, e := w.constructors(base)
		r.ways = list.Transform(constructors, w.wayOf)
		return e
	}
	return api.OK
}

// wayOf returns the way to have a value by a constructor.
func (w *world) wayOf(c constructor) way {
	return way{c.name, list.Transform(c.fields, func(f member) string { return w.reach(f.typ) })}
}

// fill makes the rounds of the fixed point: each one adds the types that have a way by those of the rounds before.
func (w *world) fill() {
	waiting := slices.Clone(w.names)
	for i := range len(w.names) {
		var found []*reached
		for _, name := range waiting {
			if r := w.types[name]; w.best(r) >= 0 {
				found = append(found, r)
			}
		}
		if len(found) == 0 {
			break
		}
		for _, r := range found {
			r.round = i + 1
		}
		waiting = slices.DeleteFunc(waiting, func(name string) bool { return w.types[name].round > 0 })
	}
}

// rank returns the round after which all types that a way needs have values.
func (w *world) rank(v way) (int, bool) {
	rank := 0
	for _, name := range v.needs {
		round := w.types[name].round
		if round == 0 {
			return 0, false
		}
		rank = max(rank, round)
	}
	return rank, true
}

// best returns the first way of the least rank, or -1.
func (w *world) best(r *reached) int {
	best, least := -1, 0
	for i, v := range r.ways {
		rank, found := w.rank(v)
		if found && (best < 0 || rank < least) {
			best, least = i, rank
		}
	}
	return best
}

// isInhabited reports whether the type that the world is made from has a value.
func (w *world) isInhabited() bool { return w.types[w.names[0]].round > 0 }

// isFinite reports whether the type that the world is made from has finitely many values.
func (w *world) isFinite() bool {
	r := w.types[w.names[0]]
	if d, _ := w.find(r.head); d.Op == api.DSubset {
		r = w.types[r.ways[0].needs[0]]
	}
	if d, _ := w.find(r.head); d.Op != api.DDatatype {
		return slices.Contains([]string{"bool", "bv1", "bv2", "bv3", "bv4"}, r.head)
	}
	return !slices.ContainsFunc(r.ways, func(v way) bool { return len(v.needs) > 0 })
}

// parts returns the root of a default expression, if it stands alone, or the types that it takes values of.
func (w *world) parts(r *reached) (api.Tree, way) {
	if b, width, found := builtinOf(r.head); found {
		return b.standard(width), way{}
	}
	if d, _ := w.find(r.head); d.Op == api.DSubset {
		return w.witness(d), way{}
	}
	return nil, r.ways[w.best(r)]
}

// witness returns the witness of a subset type without offsets.
func (p program) witness(d declaration) api.Tree {
	t, _ := tree.Sub(p.tree, d.Kids[len(d.Kids)-1])
	for i := range t {
		t[i].At = 0
	}
	return t
}

// size returns the number of nodes of the default expression of an inhabited type; what is too many counts as one more
// than the limit.
func (w *world) size(name string) int {
	if n, found := w.sizes[name]; found {
		return n
	}
	alone, taken := w.parts(w.types[name])
	n := max(len(alone), 1)
	for _, need := range taken.needs {
		n = min(n+w.size(need), api.MaxNodes+1)
	}
	w.sizes[name] = n
	return n
}

// standard returns the default expression of an inhabited type.
func (w *world) standard(name string) api.Tree {
	alone, taken := w.parts(w.types[name])
	if alone != nil {
		return alone
	}
	var kids []api.Tree
	for _, need := range taken.needs {
		kids = append(kids, w.standard(need))
	}
	return joined(api.ECons, taken.name, kids...)
}
