package term

import (
	"iter"
	"math"
	"slices"

	"entail/api"
)

const noLimit = math.MaxInt

// bounds are the least and the greatest number of the children of a node.
type bounds [2]int

// form is the form of the nodes with one Op: what can be seen without a signature.
type form struct {
	children bounds
	name     func(string) bool
	sort     func(string) bool
}

// forms returns the forms of all Ops.
func forms() [api.TermOps]form {
	many, some := bounds{0, noLimit}, bounds{1, noLimit}
	exactly := func(n int) bounds { return bounds{n, n} }
	formula := func(b bounds) form { return form{b, isEmpty, isBool} }
	sum := form{exactly(2), isEmpty, isNumber}
	return [...]form{
		api.LTrue: formula(exactly(0)), api.LFalse: formula(exactly(0)),
		api.LNum: {exactly(0), isNumeral, isNumber}, api.LVar: {exactly(0), isVariable, isNotEmpty}, api.LApp: {many, isNotEmpty, isNotEmpty},
		api.LNot: formula(exactly(1)), api.LAnd: formula(many), api.LOr: formula(many), api.LImp: formula(exactly(2)), api.LIff: formula(exactly(2)),
		api.LIte: {exactly(3), isEmpty, isNotEmpty}, api.LEq: formula(exactly(2)), api.LAdd: sum, api.LSub: sum, api.LMul: sum,
		api.LLt: formula(exactly(2)), api.LLe: formula(exactly(2)),
		api.LForall: formula(some), api.LExists: formula(some), api.LTrigger: {some, isEmpty, isEmpty},
	}
}

func isQuantifier(op int) bool { return op == api.LForall || op == api.LExists }

// span is the first node and the depth of a subtree.
type span struct {
	first, depth int
}

// survey is a term with the spans of its first nodes.
type survey struct {
	term  api.Terms
	spans []span
}

// measure returns the span of a node, and whether its children are in post-order.
func (s survey) measure(node int) (span, bool) {
	kids := s.term[node].Kids
	out := span{node, 1}
	for i := range kids {
		kid := kids[len(kids)-1-i]
		if kid < 0 || kid != out.first-1 {
			return span{}, false
		}
		out.first = s.spans[kid].first
		out.depth = max(out.depth, s.spans[kid].depth+1)
	}
	return out, true
}

// add returns the first error of the next node, and takes down its span.
func (s *survey) add(table *[api.TermOps]form) api.Errno {
	n := s.term[len(s.spans)]
	if n.Op < 0 || n.Op >= api.TermOps {
		return api.ErrKind
	}
	f := &table[n.Op]
	if len(n.Kids) < f.children[0] || len(n.Kids) > f.children[1] {
		return api.ErrShape
	}
	size, ordered := s.measure(len(s.spans))
	if !ordered {
		return api.ErrOrder
	}
	s.spans = append(s.spans, size)
	if !s.hasTriggersInPlace(n) {
		return api.ErrKind
	}
	if !f.name(n.Name) {
		return api.ErrName
	}
	if e := checkBound(n); e != api.OK {
		return e
	}
	if !f.sort(n.Sort) || n.Op == api.LNum && !isNumeralOf(n.Sort, n.Name) {
		return api.ErrSort
	}
	return api.OK
}

// hasTriggersInPlace reports whether all children of a quantifier but the last one are triggers, and no other child is.
func (s survey) hasTriggersInPlace(n api.Term) bool {
	for i, kid := range n.Kids {
		trigger := isQuantifier(n.Op) && i < len(n.Kids)-1
		if trigger != (s.term[kid].Op == api.LTrigger) {
			return false
		}
	}
	return true
}

// checkBound returns the first error of the variables of a node.
func checkBound(n api.Term) api.Errno {
	most := 0
	if isQuantifier(n.Op) {
		most = MaxVars
	}
	if len(n.Vars) > most || most > 0 && len(n.Vars) == 0 {
		return api.ErrMany
	}
	for i, v := range n.Vars {
		if e := checkVariable(v.Name, hasName(n.Vars[:i], v.Name)); e != api.OK {
			return e
		}
	}
	return api.OK
}

// checkVariable returns the error of the name of a variable in a list.
func checkVariable(name string, twice bool) api.Errno {
	switch {
	case !isVariable(name):
		return api.ErrName
	case twice:
		return api.ErrTwice
	}
	return api.OK
}

// hasName reports whether a variable has a name.
func hasName(vars []api.Bound, name string) bool { return placeOf(vars, name) >= 0 }

// placeOf returns the place of the variable with a name, or -1.
func placeOf(vars []api.Bound, name string) int {
	return slices.IndexFunc(vars, func(v api.Bound) bool { return v.Name == name })
}

// surveyOf checks the form of a term.
func surveyOf(t api.Terms) (survey, api.Errno) {
	if len(t) == 0 {
		return survey{}, api.ErrEmpty
	}
	if len(t) > api.MaxTerm {
		return survey{}, api.ErrMany
	}
	table := forms()
	s := survey{t, make([]span, 0, len(t))}
	for range t {
		if e := s.add(&table); e != api.OK {
			return survey{}, e
		}
	}
	root := len(t) - 1
	switch {
	case s.spans[root].first != 0:
		return survey{}, api.ErrOrder
	case t[root].Op == api.LTrigger:
		return survey{}, api.ErrKind
	case s.spans[root].depth > api.MaxDepth:
		return survey{}, api.ErrDeep
	}
	return s, api.OK
}

// place is a node with its index, and with the quantifiers around it, the outermost first.
type place struct {
	api.Term
	index  int
	around []int
}

// places visits the nodes of a term by their indices.
func places(t api.Terms) iter.Seq[place] {
	return func(yield func(place) bool) {
		walk(t, len(t)-1, nil, yield)
	}
}

// walk visits the nodes of a subterm and reports whether the visit goes on.
func walk(t api.Terms, node int, around []int, yield func(place) bool) bool {
	inside := around
	if isQuantifier(t[node].Op) {
		inside = append(slices.Clip(around), node)
	}
	for _, kid := range t[node].Kids {
		if !walk(t, kid, inside, yield) {
			return false
		}
	}
	return yield(place{t[node], node, around})
}

// owner is a quantifier and the place of one of its variables.
type owner struct {
	quantifier, place int
}

// nobody owns the variables that are free.
var nobody = owner{-1, -1}

// owner returns who owns a variable.
func (p place) owner(t api.Terms) owner {
	for i := range p.around {
		quantifier := p.around[len(p.around)-1-i]
		if k := placeOf(t[quantifier].Vars, p.Name); k >= 0 {
			return owner{quantifier, k}
		}
	}
	return nobody
}

// part returns the subterm at a node.
func (s survey) part(node int) api.Terms {
	first := s.spans[node].first
	return appendTerm(nil, s.term[first:node+1], -first)
}

// appendTerm appends copies of nodes whose children have moved by an offset.
func appendTerm(t, nodes api.Terms, offset int) api.Terms {
	for _, n := range nodes {
		n.Vars = slices.Clone(n.Vars)
		n.Kids = slices.Clone(n.Kids)
		for i := range n.Kids {
			n.Kids[i] += offset
		}
		t = append(t, n)
	}
	return t
}

// joined returns a term with a root above subterms.
func joined(root api.Term, kids ...api.Terms) api.Terms {
	var out api.Terms
	root.Vars, root.Kids = slices.Clone(root.Vars), nil
	for _, kid := range kids {
		out = appendTerm(out, kid, len(out))
		root.Kids = append(root.Kids, len(out)-1)
	}
	return append(out, root)
}
