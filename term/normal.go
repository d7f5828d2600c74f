package term

import "entail/api"

// literal is a node of a term, or its negation.
type literal struct {
	node     int
	positive bool
}

func (l literal) negated() literal { return literal{l.node, !l.positive} }

// recipe says how a formula is made in negation normal form. Without rows it is an atom; otherwise it has the Op outer,
// unless that is below 0, and the rows as its children: a row with one literal is that, one with two has the Op inner.
type recipe struct {
	outer, inner int
	rows         [][]literal
}

// dual returns LOr for LAnd, the other quantifier for a quantifier, and the other truth value for one.
func dual(op int) int {
	for _, p := range [...][2]int{{api.LAnd, api.LOr}, {api.LForall, api.LExists}, {api.LTrue, api.LFalse}} {
		if p == [2]int{op, p[1]} {
			return p[1]
		}
		if p == [2]int{p[0], op} {
			return p[0]
		}
	}
	return op
}

// opOf returns an Op for the positive form, and the dual one for the negative form.
func (l literal) opOf(op int) int {
	if l.positive {
		return op
	}
	return dual(op)
}

// isFormula reports whether a node is of the sort Bool.
func (s survey) isFormula(node int) bool { return isBool(s.term[node].Sort) }

// recipe returns how a formula is made.
func (s survey) recipe(l literal) recipe {
	n := s.term[l.node]
	kid := func(i int) literal { return literal{n.Kids[i], l.positive} }
	switch n.Op {
	case api.LNot:
		return recipe{-1, 0, [][]literal{{kid(0).negated()}}}
	case api.LAnd, api.LOr:
		r := recipe{outer: l.opOf(n.Op), rows: [][]literal{}}
		for i := range n.Kids {
			r.rows = append(r.rows, []literal{kid(i)})
		}
		return r
	case api.LImp:
		return recipe{l.opOf(api.LOr), 0, [][]literal{{kid(0).negated()}, {kid(1)}}}
	case api.LIff:
		return s.equivalence(l)
	case api.LEq:
		if s.isFormula(n.Kids[0]) && s.isFormula(n.Kids[1]) {
			return s.equivalence(l)
		}
	case api.LIte:
		if isBool(n.Sort) {
			condition := literal{n.Kids[0], true}
			return recipe{api.LAnd, api.LOr, [][]literal{{condition.negated(), kid(1)}, {condition, kid(2)}}}
		}
	case api.LForall, api.LExists:
		return recipe{outer: l.opOf(n.Op), rows: [][]literal{{kid(len(n.Kids) - 1)}}}
	}
	return recipe{}
}

// equivalence returns how an equivalence is made. The negative form differs in the sign of the first formula.
func (s survey) equivalence(l literal) recipe {
	n := s.term[l.node]
	a, b := literal{n.Kids[0], l.positive}, literal{n.Kids[1], true}
	return recipe{api.LAnd, api.LOr, [][]literal{{a.negated(), b}, {a, b.negated()}}}
}

// isTruth reports whether an Op is a truth value.
func isTruth(op int) bool { return op == api.LTrue || op == api.LFalse }

// extent is the number of the nodes of a form, and its depth.
type extent struct {
	size, depth int
}

// capped keeps the numbers of large forms small.
func (e extent) capped() extent {
	return extent{min(e.size, api.MaxTerm+1), e.depth}
}

// subtree returns the extent of a subterm.
func (s survey) subtree(node int) extent {
	return extent{node + 1 - s.spans[node].first, s.spans[node].depth}
}

// extents finds the extents of the forms of all nodes, the negative one first.
func (s survey) extents() [][2]extent {
	list := make([][2]extent, len(s.term))
	of := func(l literal) extent {
		if l.positive {
			return list[l.node][1]
		}
		return list[l.node][0]
	}
	for node := range s.term {
		list[node] = [2]extent{s.extent(literal{node, false}, of).capped(), s.extent(literal{node, true}, of).capped()}
	}
	return list
}

// extent returns the extent of a form from those of the forms that it is made of.
func (s survey) extent(l literal, of func(literal) extent) extent {
	r := s.recipe(l)
	if r.rows == nil {
		out := s.subtree(l.node)
		if l.positive || isTruth(s.term[l.node].Op) {
			return out
		}
		return extent{out.size + 1, out.depth + 1}
	}
	out := extent{1, 1}
	if r.outer < 0 {
		out = extent{}
	}
	for _, row := range r.rows {
		inside := extent{}
		for _, l := range row {
			part := of(l)
			inside = extent{inside.size + part.size, max(inside.depth, part.depth)}
		}
		if len(row) > 1 {
			inside = extent{inside.size + 1, inside.depth + 1}
		}
		out = extent{out.size + inside.size, max(out.depth, inside.depth+min(r.outer, 0)+1)}
	}
	return s.withTriggers(l.node, out)
}

// withTriggers adds the triggers of a quantifier to the extent of its form.
func (s survey) withTriggers(node int, e extent) extent {
	n := s.term[node]
	if !isQuantifier(n.Op) {
		return e
	}
	for _, kid := range n.Kids[:len(n.Kids)-1] {
		trigger := s.subtree(kid)
		e = extent{e.size + trigger.size, max(e.depth, trigger.depth+1)}
	}
	return e
}

// normal returns the negation normal form of a formula.
func (s survey) normal() (api.Terms, api.Errno) {
	root := len(s.term) - 1
	whole := s.extents()[root][1]
	switch {
	case !s.isFormula(root):
		return nil, api.ErrSort
	case whole.size > api.MaxTerm:
		return nil, api.ErrLarge
	case whole.depth > api.MaxDepth:
		return nil, api.ErrDeep
	}
	return s.form(literal{root, true}), api.OK
}

// form returns the form of a formula.
func (s survey) form(l literal) api.Terms {
	n := s.term[l.node]
	r := s.recipe(l)
	if r.rows == nil {
		return s.atom(l)
	}
	var kids []api.Terms
	if isQuantifier(n.Op) {
		for _, kid := range n.Kids[:len(n.Kids)-1] {
			kids = append(kids, s.part(kid))
		}
	}
	for _, row := range r.rows {
		var parts []api.Terms
		for _, l := range row {
			parts = append(parts, s.form(l))
		}
		if len(row) > 1 {
			parts = []api.Terms{joined(api.Term{Op: r.inner, Sort: api.SortBool}, parts...)}
		}
		kids = append(kids, parts...)
	}
	if r.outer < 0 {
		return kids[0]
	}
	return joined(api.Term{Op: r.outer, Sort: api.SortBool, Vars: n.Vars}, kids...)
}

// atom returns the form of a formula that is not taken apart.
func (s survey) atom(l literal) api.Terms {
	out := s.part(l.node)
	switch op := s.term[l.node].Op; {
	case l.positive:
		return out
	case isTruth(op):
		return api.Terms{{Op: dual(op), Sort: api.SortBool}}
	}
	return joined(api.Term{Op: api.LNot, Sort: api.SortBool}, out)
}
