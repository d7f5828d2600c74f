package term

import (
	"slices"

	"entail/api"
	"entail/list"
	"entail/num"
)

// simplified returns a term whose subterms are simplified from the leaves to the root.
func simplified(t api.Terms) api.Terms {
	parts := make([]api.Terms, len(t))
	for i, n := range t {
		kids := list.Transform(n.Kids, func(kid int) api.Terms { return parts[kid] })
		parts[i] = simpler(n, kids)
	}
	return parts[len(t)-1]
}

// simpler returns the simplification of a node with simplified children.
func simpler(n api.Term, kids []api.Terms) api.Terms {
	if k, found := connectiveOf(n.Op); found {
		return k.simpler(n, kids)
	}
	if isQuantifier(n.Op) {
		if body := kids[len(kids)-1]; isTruth(opOf(body)) {
			return body
		}
	}
	return joined(n, kids...)
}

// opOf returns the Op of the root of a term.
func opOf(t api.Terms) int { return t[len(t)-1].Op }

func isTrue(t api.Terms) bool { return opOf(t) == api.LTrue }

func isFalse(t api.Terms) bool { return opOf(t) == api.LFalse }

// opposite returns the simplified negation of a simplified term.
func opposite(n api.Term, kids []api.Terms) api.Terms {
	a := kids[0]
	switch opOf(a) {
	case api.LTrue, api.LFalse:
		return Bool(isFalse(a))
	case api.LNot:
		return a[:len(a)-1]
	}
	return joined(api.Term{Op: api.LNot, Sort: api.SortBool}, a)
}

// junction simplifies a conjunction or a disjunction.
func junction(n api.Term, kids []api.Terms) api.Terms {
	neutral := n.Op == api.LAnd
	isLeftOut, decides := isTrue, isFalse
	if !neutral {
		isLeftOut, decides = isFalse, isTrue
	}
	if slices.ContainsFunc(kids, decides) {
		return Bool(!neutral)
	}
	rest := slices.DeleteFunc(slices.Clone(kids), isLeftOut)
	switch len(rest) {
	case 0:
		return Bool(neutral)
	case 1:
		return rest[0]
	}
	return joined(n, rest...)
}

func implication(n api.Term, kids []api.Terms) api.Terms {
	a, b := kids[0], kids[1]
	switch {
	case isTrue(a):
		return b
	case isFalse(a) || isTrue(b):
		return Bool(true)
	case isFalse(b):
		return opposite(n, kids)
	}
	return joined(n, kids...)
}

func equivalence(n api.Term, kids []api.Terms) api.Terms {
	a, b := kids[0], kids[1]
	switch {
	case isTrue(a):
		return b
	case isTrue(b):
		return a
	case isFalse(a):
		return opposite(n, kids[1:])
	case isFalse(b):
		return opposite(n, kids)
	case Same(a, b):
		return Bool(true)
	}
	return joined(n, kids...)
}

func conditional(n api.Term, kids []api.Terms) api.Terms {
	switch {
	case isTrue(kids[0]):
		return kids[1]
	case isFalse(kids[0]):
		return kids[2]
	case Same(kids[1], kids[2]):
		return kids[1]
	}
	return joined(n, kids...)
}

// areNumerals reports whether all terms are numerals.
func areNumerals(terms []api.Terms) bool {
	return !slices.ContainsFunc(terms, func(t api.Terms) bool { return opOf(t) != api.LNum })
}

// numbers returns the numerals of terms as ones of one sort, which is Real if one of them is. The sorts of the terms need
// not fit together, because the form of a term does not say so.
func numbers(terms []api.Terms) (string, []string) {
	names := list.Transform(terms, func(t api.Terms) string { return t[0].Name })
	if !slices.ContainsFunc(terms, func(t api.Terms) bool { return rootSort(t) == api.SortReal }) {
		return api.SortInt, names
	}
	for i, t := range terms {
		if rootSort(t) == api.SortInt {
			names[i], _ = num.Real(names[i], "1")
		}
	}
	return api.SortReal, names
}

func equality(n api.Term, kids []api.Terms) api.Terms {
	switch {
	case Same(kids[0], kids[1]):
		return Bool(true)
	case areNumerals(kids):
		return Bool(false)
	}
	return joined(n, kids...)
}

// calculation simplifies an operation on numbers.
func calculation(n api.Term, kids []api.Terms) api.Terms {
	if areNumerals(kids) {
		sort, names := numbers(kids)
		if result, e := calculate(n.Op, sort, names[0], names[1]); e == api.OK {
			return api.Terms{{Op: api.LNum, Sort: sort, Name: result}}
		}
	}
	return joined(n, kids...)
}

// calculate applies an operation to two numerals of a sort.
func calculate(op int, sort, a, b string) (string, api.Errno) {
	apply := [...]func(a, b string) (string, api.Errno){num.Add, num.Sub, num.Mul}
	if sort == api.SortReal {
		apply = [...]func(a, b string) (string, api.Errno){num.AddReal, num.SubReal, num.MulReal}
	}
	return apply[op-api.LAdd](a, b)
}

// order simplifies a comparison.
func order(n api.Term, kids []api.Terms) api.Terms {
	if !areNumerals(kids) {
		return joined(n, kids...)
	}
	compare := map[string]func(a, b string) (int, api.Errno){api.SortInt: num.Compare, api.SortReal: num.CompareReal}
	sort, names := numbers(kids)
	way, _ := compare[sort](names[0], names[1])
	return Bool(way < 0 || way == 0 && n.Op == api.LLe)
}
