package term

import (
	"slices"
	"strconv"

	"entail/api"
	"entail/list"
)

// skolemizer replaces the variables of existential quantifiers in a negation normal form.
type skolemizer struct {
	term   api.Terms
	prefix string
	funs   []api.Fun
	stands map[owner]api.Terms // the applications that stand for variables
	owners []owner
	out    api.Terms
}

// skolemized returns a negation normal form without existential quantifiers, and the new functions.
func skolemized(t api.Terms, prefix string) (api.Terms, []api.Fun, api.Errno) {
	k := &skolemizer{term: t, prefix: prefix, stands: map[owner]api.Terms{}, owners: owners(t)}
	k.find(len(t)-1, nil)
	if e := k.check(); e != api.OK {
		return nil, nil, e
	}
	if !k.put(len(t) - 1) {
		return nil, nil, api.ErrLarge
	}
	if depthOf(k.out) > api.MaxDepth {
		return nil, nil, api.ErrDeep
	}
	return k.out, k.funs, api.OK
}

// find makes the new functions for the existential quantifiers in a subterm, from the left and from the inside.
func (k *skolemizer) find(node int, around []api.Bound) {
	n := k.term[node]
	switch n.Op {
	case api.LAnd, api.LOr:
		for _, kid := range n.Kids {
			k.find(kid, around)
		}
	case api.LForall:
		k.find(n.Kids[len(n.Kids)-1], slices.Concat(around, n.Vars))
	case api.LExists:
		k.find(n.Kids[len(n.Kids)-1], around)
		for i, v := range n.Vars {
			k.stands[owner{node, i}] = k.newTerm(v.Sort, around)
		}
	}
}

// newTerm returns the application of a new function to variables.
func (k *skolemizer) newTerm(sort string, vars []api.Bound) api.Terms {
	f := api.Fun{Name: k.prefix + strconv.Itoa(len(k.funs)), Args: list.Transform(vars, sortOf), Sort: sort}
	k.funs = append(k.funs, f)
	args := list.Transform(vars, func(v api.Bound) api.Terms { return Var(v.Name, v.Sort) })
	return joined(api.Term{Op: api.LApp, Sort: sort, Name: f.Name}, args...)
}

// check returns the first error of the names of variables and functions.
func (k *skolemizer) check() api.Errno {
	for p := range places(k.term) {
		for _, v := range p.Vars {
			if slices.ContainsFunc(p.around, func(quantifier int) bool { return hasName(k.term[quantifier].Vars, v.Name) }) {
				return api.ErrTwice
			}
		}
	}
	if !isSymbol(k.prefix + "0") {
		return api.ErrName
	}
	made := map[string]bool{}
	for _, f := range k.funs {
		made[f.Name] = true
	}
	if slices.ContainsFunc(k.term, func(n api.Term) bool { return n.Op == api.LApp && made[n.Name] }) {
		return api.ErrTwice
	}
	return api.OK
}

// put appends a subterm in which the variables are replaced, and reports whether there was room. No variable can be
// captured: none has the name of one around it.
func (k *skolemizer) put(node int) bool {
	n := k.term[node]
	if _, removed := k.stands[owner{node, 0}]; removed {
		return k.put(n.Kids[len(n.Kids)-1])
	}
	if by, found := k.stands[k.owners[node]]; found {
		k.out = appendTerm(k.out, by, len(k.out))
		return len(k.out) <= api.MaxTerm
	}
	n.Vars, n.Kids = slices.Clone(n.Vars), slices.Clone(n.Kids)
	for i, kid := range n.Kids {
		if !k.put(kid) {
			return false
		}
		n.Kids[i] = len(k.out) - 1
	}
	k.out = append(k.out, n)
	return len(k.out) <= api.MaxTerm
}
