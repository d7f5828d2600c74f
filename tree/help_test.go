package tree

import (
	"math/rand"
	"strconv"
	"testing"

	"entail/api"
)

// raw makes a tree without checking it.
func raw(op int, text string, kids ...api.Tree) api.Tree {
	var out api.Tree
	n := api.Node{Op: op, Text: text}
	for _, kid := range kids {
		offset := len(out)
		for _, k := range kid {
			list := make([]int, len(k.Kids))
			for i := range list {
				list[i] = k.Kids[i] + offset
			}
			k.Kids = list
			out = append(out, k)
		}
		n.Kids = append(n.Kids, len(out)-1)
	}
	return append(out, n)
}

func v(name string) api.Tree { return raw(api.EVar, name) }

func number(n int) api.Tree { return raw(api.EInt, strconv.Itoa(n)) }

func name(s string, kids ...api.Tree) api.Tree { return raw(api.TName, s, kids...) }

func integer() api.Tree { return raw(api.TInt, "") }

func quantified1(x string, body api.Tree) api.Tree {
	return raw(api.EForall, "", raw(api.QVar, x, integer()), body)
}

func less(a, b api.Tree) api.Tree { return raw(api.ELt, "", a, b) }

func plus(a, b api.Tree) api.Tree { return raw(api.EAdd, "", a, b) }

func block(list ...api.Tree) api.Tree { return raw(api.SBlock, "", list...) }

func wild() api.Tree { return raw(api.PWild, "") }

// mustPrint returns the text of a tree.
func mustPrint(t *testing.T, tr api.Tree) string {
	t.Helper()
	s, e := Print(tr)
	if e != api.OK {
		at, f := Check(tr)
		t.Fatalf("Print: error %d (Check: %d at %d)", e, f, at)
	}
	return s
}

// generator makes random trees.
type generator struct{ *rand.Rand }

func (g generator) pick(l ...string) string { return l[g.Intn(len(l))] }

func (g generator) lower() string { return g.pick("x", "y", "z", "v_0", "v_1") }

func (g generator) global() string { return g.pick("f", "g", "M::f", "x") }

func (g generator) upper() string { return g.pick("C", "D", "M::C") }

// list makes up to n trees.
func (g generator) list(n int, next func() api.Tree) []api.Tree {
	var l []api.Tree
	for range g.Intn(n + 1) {
		l = append(l, next())
	}
	return l
}

func (g generator) typ(depth int) api.Tree {
	next := func() api.Tree { return g.typ(depth - 1) }
	if depth <= 0 {
		return raw(g.Intn(3), "")
	}
	switch op := g.Intn(10); op {
	case api.TBits:
		return raw(op, strconv.Itoa(1+g.Intn(64)))
	case api.TSeq, api.TSet, api.TMulti, api.TArray:
		return raw(op, "", next())
	case api.TMap:
		return raw(op, "", next(), next())
	case api.TName:
		return raw(op, g.upper(), g.list(2, next)...)
	default:
		return raw(op, "")
	}
}

func (g generator) pattern(depth int) api.Tree {
	switch g.Intn(4) {
	case 0:
		return raw(api.PVar, g.lower())
	case 1:
		return wild()
	case 2:
		if depth > 0 {
			return raw(api.PCons, g.upper(), g.list(3, func() api.Tree { return g.pattern(depth - 1) })...)
		}
	}
	return raw(api.PLit, "", [...]api.Tree{number(g.Intn(9)), raw(api.EBool, "true"), raw(api.ENeg, "", number(g.Intn(9)))}[g.Intn(3)])
}

func (g generator) variables() []api.Tree {
	l := []api.Tree{raw(api.QVar, g.lower(), g.typ(1))}
	for range g.Intn(3) {
		l = append(l, raw(api.QVar, g.lower(), g.typ(1)))
	}
	return l
}

func (g generator) expression(depth int) api.Tree {
	next := func() api.Tree { return g.expression(depth - 1) }
	if depth <= 0 {
		switch g.Intn(6) {
		case 0:
			return number(g.Intn(100))
		case 1:
			return raw(api.EReal, g.pick("0.0", "1.5", "20.25"))
		case 2:
			return raw(api.EBool, g.pick("true", "false"))
		}
		return v(g.pick(g.lower(), g.lower(), g.lower(), "M::c"))
	}
	op := api.ENot + g.Intn(api.EFresh-api.ENot+1)
	switch op {
	case api.ENot, api.ENeg, api.ECard, api.EOld, api.EFresh:
		return raw(op, "", next())
	case api.EAs:
		return raw(op, "", next(), g.typ(2))
	case api.EIf, api.ESlice, api.EUpdate:
		return raw(op, "", next(), next(), next())
	case api.ELet:
		return raw(op, g.lower(), next(), next())
	case api.ECall:
		return raw(op, g.global(), g.list(3, next)...)
	case api.ECons:
		return raw(op, g.upper(), g.list(3, next)...)
	case api.EField:
		return raw(op, g.lower(), next())
	case api.EIs:
		return raw(op, g.upper(), next())
	case api.ESeq, api.ESet, api.EMulti:
		return raw(op, "", g.list(3, next)...)
	case api.EMap:
		l := g.list(2, next)
		for range len(l) {
			l = append(l, next())
		}
		return raw(op, "", l...)
	case api.EForall, api.EExists:
		l := g.variables()
		for range g.Intn(2) {
			l = append(l, raw(api.QTrigger, "", next(), next()))
		}
		return raw(op, "", append(l, next())...)
	case api.ESetOf:
		return raw(op, "", g.variables()[0], next(), next())
	case api.EMatch, api.ECase:
		l := []api.Tree{next()}
		for range 1 + g.Intn(3) {
			l = append(l, raw(api.ECase, "", g.pattern(2), next()))
		}
		return raw(api.EMatch, "", l...)
	}
	return raw(op, "", next(), next())
}

func (g generator) target(depth int) api.Tree {
	switch g.Intn(3) {
	case 0:
		return raw(api.EField, g.lower(), g.expression(depth-1))
	case 1:
		return raw(api.EIndex, "", g.expression(depth-1), g.expression(depth-1))
	}
	return v(g.lower())
}

func (g generator) block(depth int) api.Tree {
	return block(g.list(4, func() api.Tree { return g.statement(depth - 1) })...)
}

func (g generator) statement(depth int) api.Tree {
	e := func() api.Tree { return g.expression(min(depth, 2)) }
	if depth <= 0 {
		return raw(api.SReturn, "")
	}
	op := [...]int{api.SBlock, api.SVar, api.SVar, api.SGhostVar, api.SAssign, api.SHavoc, api.SChoose, api.SCall, api.SNew, api.SNewArray, api.SIf,
		api.SAlt, api.SWhile, api.SMatch, api.SAssert, api.SAssume, api.SCalc, api.SForall, api.SPrint, api.SReveal}[g.Intn(20)]
	switch op {
	case api.SVar, api.SGhostVar:
		return raw(op, g.lower(), append([]api.Tree{g.typ(1)}, g.list(1, e)...)...)
	case api.SAssign:
		return raw(op, "", g.target(2), e())
	case api.SHavoc:
		return raw(op, "", g.target(2))
	case api.SChoose:
		return raw(op, g.lower(), e())
	case api.SCall:
		lhs := raw(api.SLhs, "", g.list(2, func() api.Tree { return v(g.lower()) })...)
		return raw(op, g.global(), append([]api.Tree{lhs}, g.list(2, e)...)...)
	case api.SNew:
		return raw(op, g.lower(), append([]api.Tree{name("C")}, g.list(2, e)...)...)
	case api.SNewArray:
		return raw(op, g.lower(), g.typ(1), e(), e())
	case api.SIf:
		return raw(op, "", append([]api.Tree{e(), g.block(depth)}, g.list(1, func() api.Tree { return g.block(depth) })...)...)
	case api.SAlt:
		return raw(op, "", raw(api.SGuard, "", e(), g.block(depth)), raw(api.SGuard, "", e(), g.block(depth)))
	case api.SWhile:
		l := append([]api.Tree{e()}, g.list(2, func() api.Tree { return raw(api.CInvariant, "", e()) })...)
		l = append(l, g.list(1, func() api.Tree { return raw(api.CDecreases, "", e(), e()) })...)
		l = append(l, g.list(1, func() api.Tree { return raw(api.CModifies, "", e()) })...)
		return raw(op, "", append(l, g.block(depth))...)
	case api.SMatch:
		return raw(op, "", e(), raw(api.SCase, "", g.pattern(2), g.block(depth)))
	case api.SAssert:
		return raw(op, g.pick("", "x"), append([]api.Tree{e()}, g.list(1, func() api.Tree { return g.block(depth) })...)...)
	case api.SAssume, api.SPrint:
		return raw(op, "", e())
	case api.SCalc:
		l := g.list(2, func() api.Tree { return raw(api.SStep, g.pick("==", "<"), e()) })
		return raw(op, "", append(l, raw(api.SStep, "", e()))...)
	case api.SForall:
		return raw(op, "", append(g.variables(), e(), raw(api.CEnsures, "", e()), g.block(depth))...)
	case api.SReveal:
		return raw(op, g.global())
	}
	return g.block(depth)
}

func (g generator) parameters() []api.Tree {
	return g.list(2, func() api.Tree { return raw(api.DParam+g.Intn(2), g.lower(), g.typ(1)) })
}

func (g generator) declaration(depth int) api.Tree {
	e := func() api.Tree { return g.expression(2) }
	clauses := func(op int) []api.Tree {
		return g.list(2, func() api.Tree { return raw(op, "", e()) })
	}
	field := func() api.Tree { return raw(api.DField, g.lower(), g.typ(1)) }
	switch g.Intn(6) {
	case 0:
		return raw(api.DDatatype, "D", raw(api.DTypeParam, "T"), raw(api.DCons, g.upper(), g.list(2, field)...), raw(api.DCons, g.upper()))
	case 1:
		return raw(api.DSubset, "S", raw(api.DParam, g.lower(), g.typ(1)), e(), e())
	case 2:
		return raw(api.DClass, "C", g.list(3, field)...)
	case 3:
		return raw(api.DConst, g.global(), g.typ(1), e())
	case 4:
		l := append(g.parameters(), raw(api.DResult, "", g.typ(1)))
		l = append(append(append(l, clauses(api.CRequires)...), clauses(api.CReads)...), clauses(api.CEnsures)...)
		return raw(api.DFunction, g.global(), append(append(l, raw(api.CDecreases, "", e())), g.list(1, e)...)...)
	}
	l := append(g.parameters(), g.list(2, func() api.Tree { return raw(api.DOut, g.lower(), g.typ(1)) })...)
	l = append(append(append(l, clauses(api.CRequires)...), clauses(api.CModifies)...), clauses(api.CEnsures)...)
	l = append(l, raw(api.CDecreases, "", e()))
	return raw(api.DMethod, g.global(), append(l, g.list(1, func() api.Tree { return g.block(depth) })...)...)
}

func (g generator) program() api.Tree {
	return raw(api.MProgram, "", raw(api.MModule, g.pick("", "M"), g.list(3, func() api.Tree { return g.declaration(3) })...))
}

// any makes a tree of any class, with offsets.
func (g generator) any() api.Tree {
	var t api.Tree
	switch g.Intn(5) {
	case 0:
		t = g.program()
	case 1:
		t = g.declaration(4)
	case 2:
		t = g.block(4)
	case 3:
		t = g.typ(4)
	default:
		t = g.expression(1 + g.Intn(4))
	}
	for i := range t {
		t[i].At = g.Intn(1000)
	}
	if len(t) > api.MaxNodes {
		return g.any()
	}
	return t
}
