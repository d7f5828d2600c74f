package term

import (
	"slices"
	"strings"

	"entail/api"
)

// freeVariables returns the free variables of a term, each name once.
func freeVariables(t api.Terms) []api.Bound {
	var vars []api.Bound
	for p := range places(t) {
		if p.Op == api.LVar && p.owner(t) == nobody && !hasName(vars, p.Name) {
			vars = append(vars, api.Bound{Name: p.Name, Sort: p.Sort})
		}
	}
	return vars
}

// checkBindings returns the first error of a list of bindings.
func checkBindings(l []Binding) api.Errno {
	if len(l) > maxBindings {
		return api.ErrMany
	}
	before := map[string]bool{}
	for _, b := range l {
		if e := checkVariable(b.Name, before[b.Name]); e != api.OK {
			return e
		}
		if e := CheckForm(b.Term); e != api.OK {
			return e
		}
		before[b.Name] = true
	}
	return api.OK
}

// names is a set of names.
type names map[string]bool

func (n names) add(more names) {
	for name := range more {
		n[name] = true
	}
}

// replacement is what stands for a variable: a term with its free variables, or another name, which is one of these.
type replacement struct {
	term api.Terms
	name string
	free names
}

// substitution is the work of replacing variables in a term.
type substitution struct {
	survey
	free map[int]names // the free variables of the children of quantifiers
	out  api.Terms
}

// substituted returns a term in which free variables are replaced.
func substituted(t api.Terms, l []Binding) (api.Terms, api.Errno) {
	whole, _ := surveyOf(t)
	s := &substitution{survey: whole, free: map[int]names{}}
	s.findFree()
	by := map[string]replacement{}
	for _, b := range l {
		r := replacement{term: b.Term, free: names{}}
		for _, v := range freeVariables(b.Term) {
			r.free[v.Name] = true
		}
		by[b.Name] = r
	}
	if !s.put(len(t)-1, by) {
		return nil, api.ErrLarge
	}
	if depthOf(s.out) > api.MaxDepth {
		return nil, api.ErrDeep
	}
	return s.out, api.OK
}

// findFree finds the free variables of the children of quantifiers.
func (s *substitution) findFree() {
	for p := range places(s.term) {
		if isQuantifier(p.Op) && s.free[p.index] == nil {
			s.free[p.index] = names{}
		}
		if p.Op != api.LVar {
			continue
		}
		for i := range p.around {
			quantifier := p.around[len(p.around)-1-i]
			if s.free[quantifier] == nil {
				s.free[quantifier] = names{}
			}
			s.free[quantifier][p.Name] = true
			if hasName(s.term[quantifier].Vars, p.Name) {
				break
			}
		}
	}
}

// depthOf returns the depth of a term, whose names need not be right.
func depthOf(t api.Terms) int {
	s := survey{term: t}
	for node := range t {
		size, _ := s.measure(node)
		s.spans = append(s.spans, size)
	}
	return s.spans[len(t)-1].depth
}

// put appends a subterm in which variables are replaced, and reports whether there was room.
func (s *substitution) put(node int, by map[string]replacement) bool {
	n := s.term[node]
	r, found := by[n.Name]
	switch {
	case isQuantifier(n.Op):
		n.Vars, by = s.renamed(node, by)
	case n.Op == api.LVar && found && r.term != nil:
		s.out = appendTerm(s.out, r.term, len(s.out))
		return len(s.out) <= api.MaxTerm
	case n.Op == api.LVar && found:
		n.Name = r.name
	}
	kids := slices.Clone(n.Kids)
	for i, kid := range n.Kids {
		if !s.put(kid, by) {
			return false
		}
		kids[i] = len(s.out) - 1
	}
	n.Kids = kids
	s.out = append(s.out, n)
	return len(s.out) <= api.MaxTerm
}

// renamed returns the variables of a quantifier with new names for those that would capture others, and what is
// replaced inside of it.
func (s *substitution) renamed(node int, by map[string]replacement) ([]api.Bound, map[string]replacement) {
	vars := slices.Clone(s.term[node].Vars)
	captured, inside := names{}, map[string]replacement{}
	for name := range s.free[node] {
		if r, found := by[name]; found && !hasName(vars, name) {
			inside[name] = r
			captured.add(r.free)
		}
	}
	for i, v := range vars {
		if captured[v.Name] {
			vars[i].Name = s.newName(node, v.Name, vars, captured)
			inside[v.Name] = replacement{name: vars[i].Name, free: names{vars[i].Name: true}}
		}
	}
	return vars, inside
}

// newName returns a new name for a variable of a quantifier.
func (s *substitution) newName(node int, name string, vars []api.Bound, captured names) string {
search:
	for i := 1; ; i++ {
		longer := name + strings.Repeat("'", i)
		for _, taken := range [...]bool{captured[longer], s.free[node][longer], hasName(vars, longer)} {
			if taken {
				continue search
			}
		}
		return longer
	}
}

// node is a node of a term with the index that it has there.
type node struct {
	api.Term
	index int
}

// isSame reports whether two nodes have the same fields.
func (n node) isSame(m node) bool {
	return n.index == m.index && n.Op == m.Op && n.Sort == m.Sort && n.Name == m.Name && slices.Equal(n.Vars, m.Vars) && slices.Equal(n.Kids, m.Kids)
}

// sameTerms reports whether the nodes of two terms are the same.
func sameTerms(a, b api.Terms, same func(n, m node) bool) bool {
	if len(a) != len(b) {
		return false
	}
	for i := range len(a) {
		if !same(node{a[i], i}, node{b[i], i}) {
			return false
		}
	}
	return true
}

// owners returns who owns the variables of a term.
func owners(t api.Terms) []owner {
	list := make([]owner, len(t))
	for p := range places(t) {
		list[p.index] = nobody
		if p.Op == api.LVar {
			list[p.index] = p.owner(t)
		}
	}
	return list
}

// areAlike reports whether two terms are equal up to the names of bound variables.
func areAlike(a, b api.Terms) bool {
	if len(a) != len(b) {
		return false
	}
	left, right := owners(a), owners(b)
	return sameTerms(a, b, func(n, m node) bool {
		if left[n.index] != right[m.index] {
			return false
		}
		if left[n.index] != nobody {
			m.Name = n.Name
		}
		if len(n.Vars) == len(m.Vars) {
			m.Vars = slices.Clone(m.Vars)
			for i, v := range n.Vars {
				m.Vars[i].Name = v.Name
			}
		}
		return n.isSame(m)
	})
}
