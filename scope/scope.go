// Package scope tells which local variables are in scope at the nodes of a syntax tree, by the rules of chapter 2, and
// which nodes declare them. The layers from stage 3 on share it.
package scope

import (
	"iter"
	"slices"

	"entail/api"
)

// Visit visits the nodes of a syntax tree by their indices, each with the nodes that declare the variables that are
// bound there, the outermost first. A list of such nodes must not be kept.
func Visit(t api.Tree) iter.Seq2[int, []int] {
	return func(yield func(int, []int) bool) {
		if len(t) > 0 {
			visit(t, len(t)-1, nil, yield)
		}
	}
}

// visit visits the nodes of a subtree and reports whether the visit goes on.
func visit(t api.Tree, node int, around []int, yield func(int, []int) bool) bool {
	for place, kid := range t[node].Kids {
		inside := append(slices.Clip(around), bound(t, node, place)...)
		if !visit(t, kid, inside, yield) {
			return false
		}
	}
	return yield(node, around)
}

// bound returns the nodes that declare the variables that a node binds in one of its children, in their order.
func bound(t api.Tree, node, place int) []int {
	n := t[node]
	inside := t[n.Kids[place]].Op
	switch n.Op {
	case api.ELet, api.ECase, api.SCase, api.DSubset:
		if place == 1 {
			return Declared(t, node)
		}
	case api.EForall, api.EExists, api.ESetOf, api.SForall:
		if inside != api.QVar {
			return Declared(t, node)
		}
	case api.SBlock:
		return kidsOf(t, n.Kids[:place], isLocal)
	case api.DFunction, api.DMethod:
		switch {
		case inside == api.CEnsures || inside == api.SBlock:
			return Declared(t, node)
		case inside < api.DParam:
			return kidsOf(t, n.Kids, isParameter)
		}
	}
	return nil
}

// Declared returns the nodes that declare the variables that a node binds, in their order.
func Declared(t api.Tree, node int) []int {
	n := t[node]
	switch n.Op {
	case api.ELet:
		return []int{node}
	case api.EForall, api.EExists, api.ESetOf, api.SForall:
		return kidsOf(t, n.Kids, isQuantified)
	case api.ECase, api.SCase:
		return patternVariables(t, n.Kids[0])
	case api.SBlock:
		return kidsOf(t, n.Kids, isLocal)
	case api.DSubset, api.DFunction:
		return kidsOf(t, n.Kids, isParameter)
	case api.DMethod:
		return slices.Concat(kidsOf(t, n.Kids, isParameter), kidsOf(t, n.Kids, isResult))
	}
	return nil
}

func isQuantified(op int) bool { return op == api.QVar }

func isLocal(op int) bool { return op == api.SVar || op == api.SGhostVar }

func isParameter(op int) bool { return op == api.DParam || op == api.DGhostParam }

func isResult(op int) bool { return op == api.DOut }

// kidsOf returns the children of some kind.
func kidsOf(t api.Tree, kids []int, is func(op int) bool) []int {
	var found []int
	for _, kid := range kids {
		if is(t[kid].Op) {
			found = append(found, kid)
		}
	}
	return found
}

// patternVariables returns the variables of a pattern from left to right.
func patternVariables(t api.Tree, node int) []int {
	if t[node].Op == api.PVar {
		return []int{node}
	}
	var found []int
	for _, kid := range t[node].Kids {
		found = append(found, patternVariables(t, kid)...)
	}
	return found
}

// Owner returns the node that declares a variable, of those that are bound somewhere, or -1 if none does.
func Owner(t api.Tree, around []int, name string) int {
	for i := range around {
		if declared := around[len(around)-1-i]; t[declared].Text == name {
			return declared
		}
	}
	return -1
}

// Owners returns for each node of a syntax tree whose Text is an occurrence of a local variable the node that declares
// it, and -1 for all other nodes.
func Owners(t api.Tree) []int {
	owners := make([]int, len(t))
	for node, around := range Visit(t) {
		owners[node] = -1
		switch t[node].Op {
		case api.EVar, api.SNew, api.SNewArray, api.SChoose:
			owners[node] = Owner(t, around, t[node].Text)
		}
	}
	return owners
}
