package tree

import "entail/api"

const (
	noLimit     = api.MaxNodes
	maxTriggers = 4
)

// bounds are the least and the greatest number of children of a group.
type bounds [2]int

// group is a part of the children of a node.
type group struct {
	kind int
	bounds
}

// shape is the form of the nodes with an Op from first to last. The function extra, if there is one, says what the
// groups do not say: ErrShape or ErrForm.
type shape struct {
	first, last int
	text        func(string) bool
	groups      []group
	extra       func(api.Tree, api.Node) api.Errno
}

func one(kind int) group { return group{kind, bounds{1, 1}} }

func maybe(kind int) group { return group{kind, bounds{0, 1}} }

func many(kind int) group { return group{kind, bounds{0, noLimit}} }

func some(kind int) group { return group{kind, bounds{1, noLimit}} }

func upTo(least, most, kind int) group { return group{kind, bounds{least, most}} }

// children makes a list of groups.
func children(list ...group) []group { return list }

// shapes returns the forms of all Ops.
func shapes() [api.Ops]shape {
	var table [api.Ops]shape
	for _, list := range [][]shape{typeShapes(), expressionShapes(), patternShapes(), statementShapes(), clauseShapes(), declarationShapes()} {
		for _, s := range list {
			for i := range s.last - s.first + 1 {
				table[s.first+i] = s
			}
		}
	}
	return table
}

func typeShapes() []shape {
	return []shape{
		{api.TBool, api.TReal, isEmpty, nil, nil},
		{api.TBits, api.TBits, isWidth, nil, nil},
		{api.TSeq, api.TMulti, isEmpty, children(one(aType)), nil},
		{api.TMap, api.TMap, isEmpty, children(one(aType), one(aType)), nil},
		{api.TArray, api.TArray, isEmpty, children(one(aType)), nil},
		{api.TName, api.TName, isGlobalUpper, children(many(aType)), nil},
	}
}

func expressionShapes() []shape {
	single := one(anExpression)
	return []shape{
		{api.EInt, api.EInt, isNumber, nil, nil},
		{api.EReal, api.EReal, isDecimal, nil, nil},
		{api.EBool, api.EBool, isTruth, nil, nil},
		{api.EVar, api.EVar, isGlobalLower, nil, nil},
		{api.ENot, api.ENeg, isEmpty, children(single), nil},
		{api.EAdd, api.EShr, isEmpty, children(single, single), nil},
		{api.EAs, api.EAs, isEmpty, children(single, one(aType)), nil},
		{api.EIf, api.EIf, isEmpty, children(single, single, single), nil},
		{api.ELet, api.ELet, isLower, children(single, single), nil},
		{api.ECall, api.ECall, isGlobalLower, children(many(anExpression)), nil},
		{api.ECons, api.ECons, isGlobalUpper, children(many(anExpression)), nil},
		{api.EField, api.EField, isLower, children(single), nil},
		{api.EIs, api.EIs, isGlobalUpper, children(single), nil},
		{api.EIndex, api.EIndex, isEmpty, children(single, single), nil},
		{api.ESlice, api.EUpdate, isEmpty, children(single, single, single), nil},
		{api.ECard, api.ECard, isEmpty, children(single), nil},
		{api.ESeq, api.EMulti, isEmpty, children(many(anExpression)), nil},
		{api.EMap, api.EMap, isEmpty, children(many(anExpression)), nil},
		{api.EForall, api.EExists, isEmpty, children(upTo(1, api.MaxVars, api.QVar), upTo(0, maxTriggers, api.QTrigger), single), nil},
		{api.ESetOf, api.ESetOf, isEmpty, children(one(api.QVar), single, single), nil},
		{api.EMatch, api.EMatch, isEmpty, children(single, some(api.ECase)), nil},
		{api.ECase, api.ECase, isEmpty, children(one(aPattern), single), nil},
		{api.EOld, api.EFresh, isEmpty, children(single), nil},
		{api.QVar, api.QVar, isLower, children(one(aType)), nil},
		{api.QTrigger, api.QTrigger, isEmpty, children(some(anExpression)), nil},
	}
}

func patternShapes() []shape {
	return []shape{
		{api.PVar, api.PVar, isLower, nil, nil},
		{api.PWild, api.PWild, isEmpty, nil, nil},
		{api.PCons, api.PCons, isGlobalUpper, children(many(aPattern)), nil},
		{api.PLit, api.PLit, isEmpty, children(one(aLiteral)), checkLiteral},
	}
}

func statementShapes() []shape {
	single, block := one(anExpression), one(api.SBlock)
	return []shape{
		{api.SBlock, api.SBlock, isEmpty, children(many(aStatement)), nil},
		{api.SVar, api.SGhostVar, isLower, children(one(aType), maybe(anExpression)), nil},
		{api.SAssign, api.SAssign, isEmpty, children(one(aTarget), single), nil},
		{api.SHavoc, api.SHavoc, isEmpty, children(one(aTarget)), nil},
		{api.SChoose, api.SChoose, isLower, children(single), nil},
		{api.SCall, api.SCall, isGlobalLower, children(one(api.SLhs), many(anExpression)), nil},
		{api.SLhs, api.SLhs, isEmpty, children(many(api.EVar)), nil},
		{api.SNew, api.SNew, isLower, children(one(api.TName), many(anExpression)), nil},
		{api.SNewArray, api.SNewArray, isLower, children(one(aType), single, single), nil},
		{api.SIf, api.SIf, isEmpty, children(single, block, maybe(anElse)), nil},
		{api.SAlt, api.SAlt, isEmpty, children(some(api.SGuard)), nil},
		{api.SGuard, api.SGuard, isEmpty, children(single, block), nil},
		{api.SWhile, api.SWhile, isEmpty, children(single, many(api.CInvariant), maybe(api.CDecreases), many(api.CModifies), block), nil},
		{api.SMatch, api.SMatch, isEmpty, children(single, some(api.SCase)), nil},
		{api.SCase, api.SCase, isEmpty, children(one(aPattern), block), nil},
		{api.SAssert, api.SAssert, isLowerOrEmpty, children(single, maybe(api.SBlock)), nil},
		{api.SAssume, api.SAssume, isEmpty, children(single), nil},
		{api.SCalc, api.SCalc, isEmpty, children(some(api.SStep)), checkSteps},
		{api.SStep, api.SStep, isRelation, children(single, maybe(api.SBlock)), nil},
		{api.SForall, api.SForall, isEmpty, children(upTo(1, api.MaxVars, api.QVar), single, one(api.CEnsures), block), nil},
		{api.SReturn, api.SReturn, isEmpty, nil, nil},
		{api.SPrint, api.SPrint, isEmpty, children(single), nil},
		{api.SReveal, api.SReveal, isGlobalLower, nil, nil},
	}
}

func clauseShapes() []shape {
	return []shape{
		{api.CRequires, api.CInvariant, isEmpty, children(one(anExpression)), nil},
		{api.CDecreases, api.CDecreases, isEmpty, children(some(anExpression)), nil},
		{api.CReads, api.CModifies, isEmpty, children(one(anExpression)), nil},
	}
}

func declarationShapes() []shape {
	variables, parameters := many(api.DTypeParam), many(aParameter)
	return []shape{
		{api.DParam, api.DOut, isLower, children(one(aType)), nil},
		{api.DTypeParam, api.DTypeParam, isUpper, nil, nil},
		{api.DField, api.DGhostField, isLower, children(one(aType)), nil},
		{api.DCons, api.DCons, isGlobalUpper, children(many(api.DField)), nil},
		{api.DDatatype, api.DDatatype, isGlobalUpper, children(variables, some(api.DCons)), nil},
		{api.DSubset, api.DSubset, isGlobalUpper, children(one(api.DParam), one(anExpression), one(anExpression)), nil},
		{api.DClass, api.DClass, isGlobalUpper, children(many(aMember)), nil},
		{api.DConst, api.DConst, isGlobalLower, children(one(aType), one(anExpression)), nil},
		{api.DMark, api.DMark, isMark, nil, nil},
		{api.DFunction, api.DFunction, isGlobalLower, children(many(api.DMark), variables, parameters, one(api.DResult), many(api.CRequires),
			many(api.CReads), many(api.CEnsures), maybe(api.CDecreases), maybe(anExpression)), nil},
		{api.DResult, api.DResult, isEmpty, children(one(aType)), nil},
		{api.DMethod, api.DMethod, isGlobalLower, children(many(api.DMark), variables, parameters, many(api.DOut), many(api.CRequires),
			many(api.CModifies), many(api.CEnsures), maybe(api.CDecreases), maybe(api.SBlock)), nil},
		{api.MImport, api.MImport, isUpper, nil, nil},
		{api.MExport, api.MExport, isEmpty, children(many(api.MName)), nil},
		{api.MName, api.MName, isExported, nil, nil},
		{api.MRefines, api.MRefines, isUpper, nil, nil},
		{api.MModule, api.MModule, isUpperOrEmpty, children(maybe(api.MRefines), many(api.MImport), maybe(api.MExport), many(aDeclaration)), nil},
		{api.MProgram, api.MProgram, isEmpty, children(some(api.MModule)), nil},
	}
}

// checkLiteral checks that only a number is negated in a pattern.
func checkLiteral(t api.Tree, n api.Node) api.Errno {
	literal := t[n.Kids[0]]
	if literal.Op == api.ENeg && t[literal.Kids[0]].Op != api.EInt {
		return api.ErrForm
	}
	return api.OK
}

// checkSteps checks that all steps of a calculation but the last one have a relation, and that the last one has
// neither a relation nor a hint.
func checkSteps(t api.Tree, n api.Node) api.Errno {
	for i, kid := range n.Kids {
		step := t[kid]
		last := i == len(n.Kids)-1
		if last != (step.Text == "") || last && len(step.Kids) > 1 {
			return api.ErrForm
		}
	}
	return api.OK
}

// isFixed reports whether the number of children is fixed.
func (s shape) isFixed() bool {
	for _, g := range s.groups {
		if g.bounds != (bounds{1, 1}) {
			return false
		}
	}
	return true
}

// fit returns ErrShape or ErrForm if the children of a node do not have the form that its Op requires.
func (s shape) fit(t api.Tree, n api.Node) api.Errno {
	if s.isFixed() && len(n.Kids) != len(s.groups) || n.Op == api.EMap && len(n.Kids)%2 != 0 {
		return api.ErrShape
	}
	if e := s.assign(transform(n.Kids, func(kid int) int { return t[kid].Op })); e != api.OK {
		return e
	}
	if s.extra == nil {
		return api.OK
	}
	return s.extra(t, n)
}

// assign gives the children to the groups, from the left.
func (s shape) assign(ops []int) api.Errno {
	counts := make([]int, len(s.groups))
	at := 0
children:
	for _, op := range ops {
		for i := range len(s.groups) - at {
			next := at + i
			if g := s.groups[next]; accepts(g.kind, op) && counts[next] < g.bounds[1] {
				counts[next]++
				at = next
				continue children
			}
		}
		if s.isFixed() {
			return api.ErrForm
		}
		return s.misfit(op, counts)
	}
	for i, g := range s.groups {
		if counts[i] < g.bounds[0] {
			return api.ErrShape
		}
	}
	return api.OK
}

// misfit returns the error for a child that no remaining group takes.
func (s shape) misfit(op int, counts []int) api.Errno {
	for i, g := range s.groups {
		if accepts(g.kind, op) && counts[i] == g.bounds[1] {
			return api.ErrShape
		}
	}
	return api.ErrForm
}
