package tree

import (
	"slices"
	"strconv"

	"entail/api"
)

const freshPrefix = "v_"

// substitution is the work of replacing a variable in an expression.
type substitution struct {
	tree     api.Tree
	owners   map[int]int  // the occurrences of bound variables, with the nodes that declare them
	hits     map[int]bool // the free occurrences of the variable
	captures map[int]bool // the nodes that declare a variable that would capture one of the other expression
}

// findOccurrences finds where a variable is free, and which binders around these places declare one of the names.
func findOccurrences(t api.Tree, name string, names []string) substitution {
	s := substitution{t, map[int]int{}, map[int]bool{}, map[int]bool{}}
	for n, around := range scopes(t) {
		if !n.isVariable() {
			continue
		}
		if declared := owner(t, n, around); declared >= 0 {
			s.owners[n.index] = declared
			continue
		}
		if n.Text != name {
			continue
		}
		s.hits[n.index] = true
		for _, declared := range around {
			if slices.Contains(names, t[declared].Text) {
				s.captures[declared] = true
			}
		}
	}
	return s
}

// binders visits the nodes that declare variables, those of the outermost binders first.
func (s substitution) binders(node int, visit func(declared int)) {
	for _, b := range bindings(s.tree, node) {
		visit(b.declared)
	}
	for _, kid := range s.tree[node].Kids {
		s.binders(kid, visit)
	}
}

// freshNames returns the new names of the variables that would capture.
func (s substitution) freshNames(by api.Tree) map[int]string {
	used := map[string]bool{}
	for _, n := range slices.Concat(s.tree, by) {
		used[n.Text] = true
	}
	names := map[int]string{}
	next := 0
	s.binders(len(s.tree)-1, func(declared int) {
		if !s.captures[declared] {
			return
		}
		for used[freshPrefix+strconv.Itoa(next)] {
			next++
		}
		names[declared] = freshPrefix + strconv.Itoa(next)
		next++
	})
	return names
}

// renamed returns the tree in which the variables that would capture have their new names.
func (s substitution) renamed(by api.Tree) api.Tree {
	names := s.freshNames(by)
	out := appendTree(nil, s.tree, 0)
	for i := range out {
		declared, bound := s.owners[i]
		if !bound {
			declared = i
		}
		if name, found := names[declared]; found {
			out[i].Text = name
		}
	}
	return out
}

// replaced returns the tree with another one in the places of the occurrences, or ErrMany.
func (s substitution) replaced(by api.Tree) (api.Tree, api.Errno) {
	var out api.Tree
	moved := make([]int, len(s.tree))
	for i, n := range s.renamed(by) {
		if s.hits[i] {
			out = appendTree(out, by, len(out))
		} else {
			n.Kids = transform(n.Kids, func(kid int) int { return moved[kid] })
			out = append(out, n)
		}
		moved[i] = len(out) - 1
		// The result of many large copies is not built: it would not be a tree.
		if len(out) > api.MaxNodes {
			return nil, api.ErrMany
		}
	}
	return checked(out)
}

// checkLower returns ErrName for what is not a lower name.
func checkLower(name string) api.Errno {
	if !isLower(name) {
		return api.ErrName
	}
	return api.OK
}

// checkExpression returns ErrKind for a syntax tree that is not an expression.
func checkExpression(t api.Tree) api.Errno {
	if classOf(t[len(t)-1].Op) != Expression {
		return api.ErrKind
	}
	return api.OK
}

// Subst returns an expression in which the free occurrences of a variable are replaced by another expression, without capture.
func Subst(t api.Tree, name string, by api.Tree) (api.Tree, api.Errno) {
	if e := firstError(errorOf(t), errorOf(by), checkLower(name)); e != api.OK {
		return nil, e
	}
	if e := firstError(checkExpression(t), checkExpression(by)); e != api.OK {
		return nil, e
	}
	return findOccurrences(t, name, freeVariables(by)).replaced(by)
}

// Rename returns a tree in which the free occurrences of a variable have another name.
func Rename(t api.Tree, from, to string) (api.Tree, api.Errno) {
	if e := firstError(errorOf(t), checkLower(from), checkLower(to)); e != api.OK {
		return nil, e
	}
	if from != to && slices.ContainsFunc(t, func(n api.Node) bool { return n.Text == to }) {
		return nil, api.ErrTwice
	}
	out := appendTree(nil, t, 0)
	for i := range findOccurrences(t, from, nil).hits {
		out[i].Text = to
	}
	return checked(out)
}
