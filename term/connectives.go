package term

import (
	"slices"

	"entail/api"
)

// connective is a node from LNot to LLe: its word in texts, the sort that it has for the sorts of its children, if
// these are right, and its simplification for simplified children.
type connective struct {
	op      int
	word    string
	sort    func(kids []string) (string, bool)
	simpler func(n api.Term, kids []api.Terms) api.Terms
}

// connectives returns the connectives in the order of their Ops.
func connectives() [api.LLe - api.LNot + 1]connective {
	return [...]connective{
		{api.LNot, "not", logical, opposite}, {api.LAnd, "and", logical, junction}, {api.LOr, "or", logical, junction},
		{api.LImp, "=>", logical, implication}, {api.LIff, "iff", logical, equivalence}, {api.LIte, "ite", choice, conditional},
		{api.LEq, "=", equation, equality}, {api.LAdd, "+", arithmetic, calculation}, {api.LSub, "-", arithmetic, calculation},
		{api.LMul, "*", arithmetic, calculation}, {api.LLt, "<", comparison, order}, {api.LLe, "<=", comparison, order},
	}
}

// connectiveOf returns the connective with an Op.
func connectiveOf(op int) (connective, bool) {
	if op < api.LNot || op > api.LLe {
		return connective{}, false
	}
	return connectives()[op-api.LNot], true
}

// areOne reports whether some sorts are one and the same.
func areOne(sorts []string) bool { return len(slices.Compact(slices.Clone(sorts))) <= 1 }

func logical(kids []string) (string, bool) {
	return api.SortBool, !slices.ContainsFunc(kids, func(sort string) bool { return !isBool(sort) })
}

func choice(kids []string) (string, bool) {
	return kids[1], isBool(kids[0]) && areOne(kids[1:])
}

func equation(kids []string) (string, bool) { return api.SortBool, areOne(kids) }

func arithmetic(kids []string) (string, bool) {
	return kids[0], isNumber(kids[0]) && areOne(kids)
}

func comparison(kids []string) (string, bool) {
	_, right := arithmetic(kids)
	return api.SortBool, right
}
