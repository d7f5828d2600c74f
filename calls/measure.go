package calls

import (
	"slices"

	"entail/api"
	"entail/list"
	"entail/tree"
)

const lemma = "lemma"

// expressions returns the children of a node as trees.
func expressions(p api.Tree, node int) []api.Tree {
	kids, _ := tree.Kids(p, node)
	return kids
}

// given returns the expressions of the first CDecreases of a node, and whether there is one.
func given(p api.Tree, node int) ([]api.Tree, bool) {
	for _, kid := range p[node].Kids {
		if p[kid].Op == api.CDecreases {
			return expressions(p, kid), true
		}
	}
	return nil, false
}

// parameters returns the parameters of a callable.
func (g *graph) parameters(c callable) []api.Node {
	var found []api.Node
	for _, kid := range c.Kids {
		if n := g.tree[kid]; n.Op == api.DParam || n.Op == api.DGhostParam {
			found = append(found, n)
		}
	}
	return found
}

// measure returns the measure of a callable, and whether it is given.
func (g *graph) measure(c callable) ([]api.Tree, bool) {
	if measure, given := given(g.tree, c.last); given {
		return measure, true
	}
	return list.Transform(g.parameters(c), func(n api.Node) api.Tree {
		t, _ := tree.Make(api.EVar, n.Text, nil)
		return t
	}), false
}

// difference returns the measure of a loop with a condition.
func difference(condition api.Tree) []api.Tree {
	root := len(condition) - 1
	kids := expressions(condition, root)
	switch condition[root].Op {
	case api.ELt, api.ELe:
		t, _ := tree.Make(api.ESub, "", []api.Tree{kids[1], kids[0]})
		return []api.Tree{t}
	case api.EAnd:
		for _, kid := range kids {
			if found := difference(kid); len(found) > 0 {
				return found
			}
		}
	}
	return nil
}

// isLemma reports whether a callable is a method with the mark lemma.
func (g *graph) isLemma(c callable) bool {
	return c.Op == api.DMethod && slices.ContainsFunc(c.Kids, func(kid int) bool {
		return g.tree[kid].Op == api.DMark && g.tree[kid].Text == lemma
	})
}

// induction returns the parameters of a lemma over which induction goes.
func (g *graph) induction(c callable) []string {
	used := g.used(c)
	isOverDatatype := func(n api.Node) bool { return g.isDatatype(c, g.tree[n.Kids[0]]) }
	var names []string
	for _, n := range g.parameters(c) {
		if used[n.Text] && (isOverDatatype(n) || isCounted(g.tree[n.Kids[0]].Op)) {
			names = append(names, n.Text)
		}
	}
	if len(names) > 0 {
		return names
	}
	parameters := g.parameters(c)
	if i := slices.IndexFunc(parameters, isOverDatatype); i >= 0 {
		return []string{parameters[i].Text}
	}
	return nil
}

// isCounted reports whether an Op is a built-in type over which induction goes.
func isCounted(op int) bool { return op == api.TInt || op == api.TBits || op == api.TSeq }

// isDatatype reports whether a type in a callable is a datatype.
func (g *graph) isDatatype(c callable, typ api.Node) bool {
	if typ.Op != api.TName || g.isParameter(c, typ) {
		return false
	}
	for d := range declarations(g.tree) {
		if d.Text == typ.Text && d.isDeclaration() {
			return d.Op == api.DDatatype
		}
	}
	return false
}

// isParameter reports whether a type is a type parameter of a callable.
func (g *graph) isParameter(c callable, typ api.Node) bool {
	return len(typ.Kids) == 0 && !isQualified(typ.Text) && slices.ContainsFunc(c.Kids, func(kid int) bool {
		return g.tree[kid].Op == api.DTypeParam && g.tree[kid].Text == typ.Text
	})
}

func isQualified(name string) bool {
	for _, c := range name {
		if c == ':' {
			return true
		}
	}
	return false
}

// used returns the free variables of the arguments of recursive functions in the contract of a callable.
func (g *graph) used(c callable) map[string]bool {
	used := map[string]bool{}
	for _, kid := range c.Kids {
		if op := g.tree[kid].Op; op != api.CRequires && op != api.CEnsures {
			continue
		}
		clause, _ := tree.Sub(g.tree, kid)
		for _, n := range clause {
			if n.Op != api.ECall || !g.isRecursiveFunction(n.Text) {
				continue
			}
			for _, name := range freeIn(clause, n.Kids) {
				used[name] = true
			}
		}
	}
	return used
}

// freeIn returns the free variables of some nodes, each as an expression alone.
func freeIn(t api.Tree, nodes []int) []string {
	var names []string
	for _, node := range nodes {
		argument, _ := tree.Sub(t, node)
		free, _ := tree.Free(argument)
		names = append(names, free...)
	}
	return names
}

func (g *graph) isRecursiveFunction(name string) bool {
	i, found := g.named[name]
	return found && g.callables[i].Op == api.DFunction && g.isRecursive(i)
}
