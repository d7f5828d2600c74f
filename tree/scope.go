package tree

import (
	"iter"
	"slices"

	"entail/api"
)

// item is a node with its index.
type item struct {
	api.Node
	index int
}

// binding is a variable that a node binds: the node that declares it, and the children that see it, by their places.
type binding struct {
	declared int
	covers   func(place int) bool
}

func at(wanted int) func(int) bool { return func(place int) bool { return place == wanted } }

func behind(last int) func(int) bool { return func(place int) bool { return place > last } }

// bindings returns the variables that a node binds, in their order.
func bindings(t api.Tree, node int) []binding {
	n := t[node]
	switch n.Op {
	case api.ELet:
		return []binding{{node, at(1)}}
	case api.EForall, api.EExists, api.ESetOf, api.SForall:
		return quantified(t, n)
	case api.ECase, api.SCase:
		return transform(patternVariables(t, n.Kids[0]), func(v int) binding { return binding{v, at(1)} })
	case api.SBlock:
		return locals(t, n)
	case api.DSubset:
		return []binding{{n.Kids[0], at(1)}}
	case api.DFunction, api.DMethod:
		return parameters(t, n)
	}
	return nil
}

// quantified returns the variables of a quantifier: they come first, and all other children see them.
func quantified(t api.Tree, n api.Node) []binding {
	variables := slices.DeleteFunc(slices.Clone(n.Kids), func(kid int) bool { return t[kid].Op != api.QVar })
	return transform(variables, func(v int) binding { return binding{v, behind(len(variables) - 1)} })
}

// patternVariables returns the variables of a pattern from left to right.
func patternVariables(t api.Tree, node int) []int {
	if t[node].Op == api.PVar {
		return []int{node}
	}
	return slices.Concat(transform(t[node].Kids, func(kid int) []int { return patternVariables(t, kid) })...)
}

// locals returns the variables of a block: the statements behind a declaration see it.
func locals(t api.Tree, n api.Node) []binding {
	var list []binding
	for place, kid := range n.Kids {
		if op := t[kid].Op; op == api.SVar || op == api.SGhostVar {
			list = append(list, binding{kid, behind(place)})
		}
	}
	return list
}

// parameters returns the parameters of a function or a method: clauses and the body see them. Results are seen by
// postconditions and the body alone.
func parameters(t api.Tree, n api.Node) []binding {
	inside := func(place int) bool {
		class := classOf(t[n.Kids[place]].Op)
		return class == Clause || class == Expression || class == Statement
	}
	after := func(place int) bool {
		op := t[n.Kids[place]].Op
		return op == api.CEnsures || op == api.SBlock
	}
	var list []binding
	for _, kid := range n.Kids {
		switch op := t[kid].Op; {
		case accepts(aParameter, op):
			list = append(list, binding{kid, inside})
		case op == api.DOut:
			list = append(list, binding{kid, after})
		}
	}
	return list
}

// scopes visits the nodes of a tree by their indices, each with the nodes that declare the variables that are bound
// there, the outermost first.
func scopes(t api.Tree) iter.Seq2[item, []int] {
	return func(yield func(item, []int) bool) {
		walk(t, len(t)-1, nil, yield)
	}
}

// walk visits the nodes of a subtree and reports whether the visit goes on.
func walk(t api.Tree, node int, around []int, yield func(item, []int) bool) bool {
	inside := bindings(t, node)
	for place, kid := range t[node].Kids {
		seen := slices.Clip(around)
		for _, b := range inside {
			if b.covers(place) {
				seen = append(seen, b.declared)
			}
		}
		if !walk(t, kid, seen, yield) {
			return false
		}
	}
	return yield(item{t[node], node}, around)
}

// isVariable reports whether the Text of a node is an occurrence of a local variable.
func (n item) isVariable() bool {
	switch n.Op {
	case api.EVar:
		return !isQualified(n.Text)
	case api.SNew, api.SNewArray, api.SChoose:
		return true
	}
	return false
}

// owner returns the node that declares the variable of an occurrence, or -1 if it is free.
func owner(t api.Tree, n item, around []int) int {
	for i := range around {
		declared := around[len(around)-1-i]
		if t[declared].Text == n.Text {
			return declared
		}
	}
	return -1
}

// freeVariables returns the free variables of a syntax tree.
func freeVariables(t api.Tree) []string {
	var list []string
	seen := map[string]bool{}
search:
	for n, around := range scopes(t) {
		if !n.isVariable() || seen[n.Text] {
			continue
		}
		for _, declared := range around {
			if t[declared].Text == n.Text {
				continue search
			}
		}
		seen[n.Text] = true
		list = append(list, n.Text)
	}
	return list
}

// Free returns the free local variables of a tree, each once, in the order of their first occurrence.
func Free(t api.Tree) ([]string, api.Errno) {
	if e := errorOf(t); e != api.OK {
		return nil, e
	}
	return freeVariables(t), api.OK
}

// Bound returns the local variables that are in scope at a node.
func Bound(t api.Tree, node int) ([]string, api.Errno) {
	if _, e := surveyWith(t, node); e != api.OK {
		return nil, e
	}
	var names []string
	for n, around := range scopes(t) {
		if n.index == node {
			names = transform(around, func(declared int) string { return t[declared].Text })
			break
		}
	}
	var list []string
	for i, name := range names {
		if !slices.Contains(names[i+1:], name) {
			list = append(list, name)
		}
	}
	return list, api.OK
}

// isUse reports whether the Text of a node is a global name that the tree uses.
func isUse(n api.Node) bool {
	switch n.Op {
	case api.TName, api.ECall, api.ECons, api.EIs, api.PCons, api.SCall, api.SReveal:
		return true
	}
	return n.Op == api.EVar && isQualified(n.Text)
}

// Globals returns the global names that a tree uses, each once, in the order of their first occurrence.
func Globals(t api.Tree) ([]string, api.Errno) {
	if e := errorOf(t); e != api.OK {
		return nil, e
	}
	var list []string
	seen := map[string]bool{}
	for _, n := range t {
		if isUse(n) && !seen[n.Text] {
			seen[n.Text] = true
			list = append(list, n.Text)
		}
	}
	return list, api.OK
}
