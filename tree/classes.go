package tree

import "entail/api"

// What a group of children accepts, where it is more than one Op: a syntactic class, or one of the sets below.
const (
	aType        = api.Ops + Type
	anExpression = api.Ops + Expression
	aPattern     = api.Ops + Pattern
	aStatement   = api.Ops + Statement
	aDeclaration = api.Ops + Declaration
)

const (
	aTarget    = iota + api.Ops + Other + 1
	aLiteral   // of a pattern
	aParameter // ghost or not
	aMember    // of a class
	anElse     // part of an SIf
)

func isBetween(op, low, high int) bool { return low <= op && op <= high }

// classOf returns the syntactic class of an Op that exists.
func classOf(op int) int {
	switch {
	case isBetween(op, api.TBool, api.TName):
		return Type
	case isBetween(op, api.EInt, api.EMatch), op == api.EOld, op == api.EFresh:
		return Expression
	case isBetween(op, api.PVar, api.PLit):
		return Pattern
	case op == api.SLhs, op == api.SGuard, op == api.SCase, op == api.SStep:
		return Other
	case isBetween(op, api.SBlock, api.SReveal):
		return Statement
	case isBetween(op, api.CRequires, api.CModifies):
		return Clause
	case isBetween(op, api.DDatatype, api.DConst), op == api.DFunction, op == api.DMethod:
		return Declaration
	case op == api.MModule, op == api.MProgram:
		return Module
	}
	return Other
}

// accepts reports whether a group of a kind takes a child with an Op that exists.
func accepts(kind, op int) bool {
	switch kind {
	case aTarget:
		return op == api.EVar || op == api.EField || op == api.EIndex
	case aLiteral:
		return op == api.EInt || op == api.EBool || op == api.ENeg
	case aParameter:
		return op == api.DParam || op == api.DGhostParam
	case aMember:
		return op == api.DField || op == api.DGhostField
	case anElse:
		return op == api.SBlock || op == api.SIf
	}
	if kind < api.Ops {
		return kind == op
	}
	return kind-api.Ops == classOf(op)
}
