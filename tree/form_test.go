package tree

import (
	"math/rand"
	"slices"
	"strings"
	"testing"

	"entail/api"
)

// sample returns syntax trees of an Op, the simplest one first.
func sample(op int) []api.Tree {
	x, i, b := v("x"), integer(), block()
	q, p := raw(api.QVar, "q", i), raw(api.DParam, "p", i)
	ensures, invariant := raw(api.CEnsures, "", x), raw(api.CInvariant, "", x)
	decreases, modifies := raw(api.CDecreases, "", x, x), raw(api.CModifies, "", x)
	requires, reads := raw(api.CRequires, "", x), raw(api.CReads, "", x)
	mark, parameter := raw(api.DMark, "ghost"), raw(api.DTypeParam, "T")
	one := func(l ...api.Tree) []api.Tree { return l }
	switch op {
	case api.TBool, api.TInt, api.TReal, api.PWild, api.SReturn, api.ESeq, api.ESet, api.EMulti, api.SLhs, api.SBlock, api.MExport:
		extra := map[int][]api.Tree{api.ESeq: {x, x}, api.ESet: {x}, api.EMulti: {x}, api.SLhs: {x, x}, api.SBlock: {b, raw(api.SReturn, "")}, api.MExport: {raw(api.MName, "f"), raw(api.MName, "+F")}}
		return one(raw(op, ""), raw(op, "", extra[op]...))
	case api.TBits:
		return one(raw(op, "1"), raw(op, "64"))
	case api.TSeq, api.TSet, api.TMulti, api.TArray, api.DResult:
		return one(raw(op, "", i))
	case api.TMap:
		return one(raw(op, "", i, i))
	case api.TName:
		return one(raw(op, "C"), raw(op, "M::C", i, i, i))
	case api.EInt:
		return one(raw(op, "0"), raw(op, strings.Repeat("9", 120)))
	case api.EReal:
		return one(raw(op, "0.0"), raw(op, "12.05"), raw(op, strings.Repeat("1", 38)+".5"))
	case api.EBool:
		return one(raw(op, "true"), raw(op, "false"))
	case api.EVar:
		return one(raw(op, "x"), raw(op, "M::x"), raw(op, strings.Repeat("x", 24)), raw(op, "bv65"))
	case api.EAs:
		return one(raw(op, "", x, i))
	case api.EIf, api.ESlice, api.EUpdate:
		return one(raw(op, "", x, x, x))
	case api.ELet:
		return one(raw(op, "y", x, x))
	case api.ECall:
		return one(raw(op, "f"), raw(op, "M::f", x, x))
	case api.ECons:
		return one(raw(op, "C"), raw(op, "M::C", x, x))
	case api.EField:
		return one(raw(op, "f", x))
	case api.EIs:
		return one(raw(op, "C", x), raw(op, "M::C", x))
	case api.EMap:
		return one(raw(op, ""), raw(op, "", x, x), raw(op, "", x, x, x, x))
	case api.EForall, api.EExists:
		return one(raw(op, "", q, x), raw(op, "", q, q, q, q, raw(api.QTrigger, "", x), raw(api.QTrigger, "", x, x), raw(api.QTrigger, "", x), raw(api.QTrigger, "", x), x))
	case api.ESetOf:
		return one(raw(op, "", q, x, x))
	case api.EMatch:
		return one(raw(op, "", x, raw(api.ECase, "", wild(), x)), raw(op, "", x, raw(api.ECase, "", wild(), x), raw(api.ECase, "", wild(), x)))
	case api.ECase:
		return one(raw(op, "", wild(), x))
	case api.QVar, api.DParam, api.DGhostParam, api.DOut, api.DField, api.DGhostField:
		return one(raw(op, "y", i))
	case api.QTrigger, api.CDecreases:
		return one(raw(op, "", x), raw(op, "", x, x))
	case api.PVar:
		return one(raw(op, "y"))
	case api.PCons:
		return one(raw(op, "C"), raw(op, "M::C", wild(), wild()))
	case api.PLit:
		return one(raw(op, "", number(1)), raw(op, "", raw(api.EBool, "true")), raw(op, "", raw(api.ENeg, "", number(1))))
	case api.SVar, api.SGhostVar:
		return one(raw(op, "y", i), raw(op, "y", i, x))
	case api.SAssign:
		return one(raw(op, "", x, x), raw(op, "", raw(api.EField, "f", x), x), raw(op, "", raw(api.EIndex, "", x, x), x))
	case api.SHavoc:
		return one(raw(op, "", x))
	case api.SChoose:
		return one(raw(op, "y", x))
	case api.SCall:
		return one(raw(op, "f", raw(api.SLhs, "")), raw(op, "M::f", raw(api.SLhs, "", x), x, x))
	case api.SNew:
		return one(raw(op, "y", name("C")), raw(op, "y", name("C"), x, x))
	case api.SNewArray:
		return one(raw(op, "y", i, x, x))
	case api.SIf:
		return one(raw(op, "", x, b), raw(op, "", x, b, b), raw(op, "", x, b, raw(op, "", x, b)))
	case api.SAlt:
		return one(raw(op, "", raw(api.SGuard, "", x, b)), raw(op, "", raw(api.SGuard, "", x, b), raw(api.SGuard, "", x, b)))
	case api.SGuard:
		return one(raw(op, "", x, b))
	case api.SWhile:
		return one(raw(op, "", x, b), raw(op, "", x, invariant, invariant, decreases, modifies, modifies, b))
	case api.SMatch:
		return one(raw(op, "", x, raw(api.SCase, "", wild(), b)), raw(op, "", x, raw(api.SCase, "", wild(), b), raw(api.SCase, "", wild(), b)))
	case api.SCase:
		return one(raw(op, "", wild(), b))
	case api.SAssert:
		return one(raw(op, "", x), raw(op, "l", x, b))
	case api.SCalc:
		return one(raw(op, "", raw(api.SStep, "", x)), raw(op, "", raw(api.SStep, "==>", x, b), raw(api.SStep, "<", x), raw(api.SStep, "", x)))
	case api.SStep:
		return one(raw(op, "", x), raw(op, "==", x), raw(op, "==>", x, b), raw(op, "<=", x), raw(op, "<", x), raw(op, "", x, b))
	case api.SForall:
		return one(raw(op, "", q, x, ensures, b), raw(op, "", q, q, q, q, x, ensures, b))
	case api.SReveal:
		return one(raw(op, "f"), raw(op, "M::f"))
	case api.DTypeParam, api.MImport, api.MRefines:
		return one(raw(op, "T"))
	case api.DCons:
		return one(raw(op, "C"), raw(op, "M::C", raw(api.DField, "f", i), raw(api.DField, "g", i)))
	case api.DDatatype:
		return one(raw(op, "D", raw(api.DCons, "C")), raw(op, "M::D", parameter, parameter, raw(api.DCons, "C"), raw(api.DCons, "E")))
	case api.DSubset:
		return one(raw(op, "S", p, x, x))
	case api.DClass:
		return one(raw(op, "C"), raw(op, "M::C", raw(api.DGhostField, "f", i), raw(api.DField, "g", i), raw(api.DGhostField, "h", i)))
	case api.DConst:
		return one(raw(op, "c", i, x), raw(op, "M::c", i, x))
	case api.DMark:
		return one(raw(op, "ghost"), raw(op, "opaque"), raw(op, "hidden"), raw(op, "least"), raw(op, "greatest"), raw(op, "lemma"), raw(op, "fuel 0"), raw(op, "fuel 9"))
	case api.DFunction:
		return one(raw(op, "f", raw(api.DResult, "", i)),
			raw(op, "M::f", mark, mark, parameter, p, raw(api.DGhostParam, "q", i), p, raw(api.DResult, "", i), requires, requires, reads, ensures, ensures, decreases, x))
	case api.DMethod:
		return one(raw(op, "m"),
			raw(op, "M::m", mark, parameter, p, raw(api.DGhostParam, "q", i), raw(api.DOut, "o", i), raw(api.DOut, "r", i), requires, modifies, modifies, ensures, decreases, b))
	case api.MName:
		return one(raw(op, "f"), raw(op, "F"), raw(op, "+f"), raw(op, "+F"))
	case api.MModule:
		return one(raw(op, ""), raw(op, "M", raw(api.MRefines, "N"), raw(api.MImport, "A"), raw(api.MImport, "B"), raw(api.MExport, ""), raw(api.DClass, "C"), raw(api.DMethod, "m")))
	case api.MProgram:
		return one(raw(op, "", raw(api.MModule, "")), raw(op, "", raw(api.MModule, "M"), raw(api.MModule, "N")))
	}
	switch {
	case api.EAdd <= op && op <= api.EShr, op == api.EIndex:
		return one(raw(op, "", x, x))
	}
	return one(raw(op, "", x))
}

func TestCheckOps(t *testing.T) { // P2.1
	for op := range api.Ops {
		for i, s := range sample(op) {
			if at, e := Check(s); at != 0 || e != api.OK {
				t.Errorf("Op %d, sample %d: %d, %d", op, i, at, e)
			}
			root := len(s) - 1
			s[root].Text += "$"
			if at, e := Check(s); at != root || e != api.ErrName {
				t.Errorf("Op %d, sample %d with another Text: %d, %d", op, i, at, e)
			}
		}
	}
}

func TestCheckTexts(t *testing.T) { // P2.1
	bad := map[int][]string{
		api.TBool: {"x", " "}, api.TBits: {"", "0", "65", "08", "8a", "100", "-1", "1 "}, api.TName: {"", "c", "m::C", "M::c", "M::", "::C", "C::D::E", "C1_$", "M::N::C"},
		api.EInt:  {"", "00", "01", "-1", "+1", "1.0", strings.Repeat("9", 121), "1 "},
		api.EReal: {"", "1", "1.", ".5", "01.5", "1.50", "1.00", "0.00", "-1.5", "1.5.5", strings.Repeat("1", 39) + ".5", "1,5"},
		api.EBool: {"", "True", "0"}, api.EVar: {"", "X", "Nil", "1x", "_x", "x-y", "if", "array", "bv8", "M::X", "m::x", "M::if", "M::x::y", strings.Repeat("x", 25), "x\xff", "\u00e9"},
		api.ELet: {"", "M::x", "X"}, api.ECall: {"", "F", "M::F"}, api.ECons: {"", "c", "M::c"}, api.EField: {"", "F", "M::f"}, api.EIs: {"", "c"},
		api.QVar: {"", "M::x", "X", "old"}, api.PVar: {"", "M::x", "X", "_"}, api.PWild: {"_"}, api.PCons: {"", "c"}, api.SVar: {"", "M::x"}, api.SGhostVar: {"", "X"},
		api.SChoose: {"", "M::x"}, api.SCall: {"", "F"}, api.SNew: {"", "M::x"}, api.SNewArray: {"", "X"}, api.SAssert: {"X", "M::l", "1"},
		api.SStep: {"!=", ">", ">=", "<==>", "=", " "}, api.SReveal: {"", "F"}, api.DParam: {"", "X", "M::x"}, api.DTypeParam: {"", "t", "M::T"}, api.DField: {"", "F", "M::f"},
		api.DCons: {"", "c", "M::c"}, api.DDatatype: {"", "d"}, api.DSubset: {"", "s"}, api.DClass: {"", "c"}, api.DConst: {"", "C"},
		api.DMark: {"", "fuel", "fuel ", "fuel 10", "fuel  1", "fuel x", "Ghost", "ghost "}, api.DFunction: {"", "F"}, api.DMethod: {"", "M"},
		api.MImport: {"", "m", "M::N"}, api.MRefines: {"", "m"}, api.MName: {"", "+", "++f", "M::f", "+M::f", "if", "f+"}, api.MModule: {"m", "M::N"}, api.MProgram: {"M"},
	}
	for op, texts := range bad {
		for _, text := range texts {
			s := slices.Clone(sample(op)[0])
			s[len(s)-1].Text = text
			if at, e := Check(s); at != len(s)-1 || e != api.ErrName {
				t.Errorf("Op %d with the Text %q: %d, %d", op, text, at, e)
			}
		}
	}
}

// TestCheckChildren gives each Op children of all kinds.
func TestCheckChildren(t *testing.T) { // P2.1
	x, i, b := v("x"), integer(), block()
	q, g := raw(api.QVar, "q", i), raw(api.QTrigger, "", x)
	ensures, invariant, decreases, modifies := raw(api.CEnsures, "", x), raw(api.CInvariant, "", x), raw(api.CDecreases, "", x), raw(api.CModifies, "", x)
	requires, reads := raw(api.CRequires, "", x), raw(api.CReads, "", x)
	mark, parameter, p, out, result := raw(api.DMark, "ghost"), raw(api.DTypeParam, "T"), raw(api.DParam, "p", i), raw(api.DOut, "o", i), raw(api.DResult, "", i)
	guard, scase, ecase, step, last := raw(api.SGuard, "", x, b), raw(api.SCase, "", wild(), b), raw(api.ECase, "", wild(), x), raw(api.SStep, "<", x), raw(api.SStep, "", x)
	imp, exp, base, field := raw(api.MImport, "A"), raw(api.MExport, ""), raw(api.MRefines, "N"), raw(api.DField, "f", i)
	ifs, class, cons, lhs := raw(api.SIf, "", x, b), raw(api.DClass, "C"), raw(api.DCons, "C"), raw(api.SLhs, "")
	neg := raw(api.ENeg, "", x)
	const shape, form = api.ErrShape, api.ErrForm
	for n, c := range []struct {
		op   int
		text string
		kids []api.Tree
		want api.Errno
	}{
		{api.TInt, "", []api.Tree{i}, shape}, {api.TSeq, "", nil, shape}, {api.TSeq, "", []api.Tree{i, i}, shape}, {api.TSeq, "", []api.Tree{x}, form},
		{api.TMap, "", []api.Tree{i}, shape}, {api.TMap, "", []api.Tree{i, x}, form}, {api.TMap, "", []api.Tree{x, i, i}, shape}, {api.TName, "C", []api.Tree{i, x}, form},
		{api.EVar, "x", []api.Tree{x}, shape}, {api.ENot, "", nil, shape}, {api.ENot, "", []api.Tree{i}, form}, {api.ENot, "", []api.Tree{i, i}, shape},
		{api.EAnd, "", []api.Tree{x}, shape}, {api.EAnd, "", []api.Tree{x, i}, form}, {api.EAs, "", []api.Tree{i, x}, form}, {api.EIf, "", []api.Tree{x, x}, shape},
		{api.ELet, "y", []api.Tree{x, x, x}, shape}, {api.ECall, "f", []api.Tree{x, i}, form}, {api.ECall, "f", []api.Tree{q}, form}, {api.ECons, "C", []api.Tree{wild()}, form},
		{api.EMap, "", []api.Tree{x, x, x}, shape}, {api.EMap, "", []api.Tree{x}, shape}, {api.EMap, "", []api.Tree{x, i}, form}, {api.EMap, "", []api.Tree{i}, shape},
		{api.ESeq, "", []api.Tree{i}, form}, {api.ESeq, "", []api.Tree{ecase}, form},
		{api.EForall, "", []api.Tree{x}, shape}, {api.EForall, "", []api.Tree{q}, shape}, {api.EForall, "", []api.Tree{q, q, q, q, q, x}, shape},
		{api.EForall, "", []api.Tree{q, g, g, g, g, g, x}, shape}, {api.EForall, "", []api.Tree{q, x, x}, shape}, {api.EForall, "", []api.Tree{q, x, g}, form},
		{api.EForall, "", []api.Tree{q, g, q, x}, form}, {api.EForall, "", []api.Tree{x, q}, form}, {api.EForall, "", []api.Tree{q, i, x}, form}, {api.EForall, "", nil, shape},
		{api.EForall, "", []api.Tree{q, q, q, q, g, q, x}, shape}, {api.EForall, "", []api.Tree{g, x}, shape},
		{api.ESetOf, "", []api.Tree{q, q, x, x}, shape}, {api.ESetOf, "", []api.Tree{x, q, x}, form}, {api.ESetOf, "", []api.Tree{q, x, i}, form},
		{api.EMatch, "", []api.Tree{x}, shape}, {api.EMatch, "", []api.Tree{ecase}, shape}, {api.EMatch, "", []api.Tree{x, scase}, form}, {api.EMatch, "", []api.Tree{x, x, ecase}, shape},
		{api.ECase, "", []api.Tree{x, x}, form}, {api.ECase, "", []api.Tree{wild()}, shape}, {api.QVar, "x", []api.Tree{x}, form}, {api.QTrigger, "", nil, shape},
		{api.PCons, "C", []api.Tree{x}, form}, {api.PLit, "", []api.Tree{x}, form}, {api.PLit, "", []api.Tree{neg}, form}, {api.PLit, "", nil, shape},
		{api.PLit, "", []api.Tree{raw(api.EReal, "1.5")}, form}, {api.PLit, "", []api.Tree{raw(api.ENeg, "", raw(api.ENeg, "", number(1)))}, form},
		{api.SBlock, "", []api.Tree{x}, form}, {api.SBlock, "", []api.Tree{guard}, form}, {api.SBlock, "", []api.Tree{lhs}, form}, {api.SBlock, "", []api.Tree{step}, form},
		{api.SBlock, "", []api.Tree{scase}, form}, {api.SVar, "y", nil, shape}, {api.SVar, "y", []api.Tree{x}, shape}, {api.SVar, "y", []api.Tree{i, x, x}, shape},
		{api.SVar, "y", []api.Tree{i, i}, shape}, {api.SVar, "y", []api.Tree{i, b}, form}, {api.SAssign, "", []api.Tree{number(1), x}, form}, {api.SAssign, "", []api.Tree{x}, shape},
		{api.SAssign, "", []api.Tree{raw(api.ESlice, "", x, x, x), x}, form}, {api.SHavoc, "", []api.Tree{number(1)}, form}, {api.SCall, "f", nil, shape}, {api.SCall, "f", []api.Tree{x}, shape},
		{api.SCall, "f", []api.Tree{lhs, lhs}, shape}, {api.SLhs, "", []api.Tree{number(1)}, form}, {api.SNew, "y", []api.Tree{i}, form}, {api.SNew, "y", []api.Tree{x}, shape},
		{api.SNew, "y", nil, shape}, {api.SNewArray, "y", []api.Tree{i, x}, shape}, {api.SNewArray, "y", []api.Tree{i, i, x}, form},
		{api.SIf, "", []api.Tree{x}, shape}, {api.SIf, "", []api.Tree{x, b, b, b}, shape}, {api.SIf, "", []api.Tree{x, ifs}, shape}, {api.SIf, "", []api.Tree{x, b, x}, shape},
		{api.SIf, "", []api.Tree{x, b, guard}, form}, {api.SIf, "", []api.Tree{b, x}, form}, {api.SAlt, "", nil, shape}, {api.SAlt, "", []api.Tree{scase}, form}, {api.SGuard, "", []api.Tree{x, x}, form},
		{api.SWhile, "", []api.Tree{x}, shape}, {api.SWhile, "", []api.Tree{x, decreases, invariant, b}, form}, {api.SWhile, "", []api.Tree{x, decreases, decreases, b}, shape},
		{api.SWhile, "", []api.Tree{x, modifies, decreases, b}, form}, {api.SWhile, "", []api.Tree{x, b, b}, shape}, {api.SWhile, "", []api.Tree{x, ensures, b}, form}, {api.SWhile, "", []api.Tree{invariant, b}, shape},
		{api.SMatch, "", []api.Tree{x}, shape}, {api.SMatch, "", []api.Tree{x, ecase}, form}, {api.SCase, "", []api.Tree{x, b}, form}, {api.SAssert, "", nil, shape},
		{api.SAssert, "", []api.Tree{x, b, b}, shape}, {api.SAssert, "", []api.Tree{b}, shape}, {api.SAssert, "", []api.Tree{x, x}, shape}, {api.SAssume, "", []api.Tree{x, x}, shape},
		{api.SCalc, "", nil, shape}, {api.SCalc, "", []api.Tree{step}, form}, {api.SCalc, "", []api.Tree{last, last}, form}, {api.SCalc, "", []api.Tree{step, raw(api.SStep, "", x, b)}, form},
		{api.SCalc, "", []api.Tree{x}, form}, {api.SStep, "<", []api.Tree{x, b, b}, shape}, {api.SStep, "<", []api.Tree{b}, shape},
		{api.SForall, "", []api.Tree{q, x, b}, shape}, {api.SForall, "", []api.Tree{x, ensures, b}, shape}, {api.SForall, "", []api.Tree{q, q, q, q, q, x, ensures, b}, shape},
		{api.SForall, "", []api.Tree{q, x, requires, b}, form}, {api.SForall, "", []api.Tree{q, x, ensures, ensures, b}, shape}, {api.SReturn, "", []api.Tree{x}, shape},
		{api.CRequires, "", []api.Tree{i}, form}, {api.CRequires, "", nil, shape}, {api.CDecreases, "", nil, shape}, {api.DParam, "p", []api.Tree{x}, form},
		{api.DCons, "C", []api.Tree{raw(api.DGhostField, "f", i)}, form}, {api.DDatatype, "D", []api.Tree{parameter}, shape}, {api.DDatatype, "D", []api.Tree{cons, parameter}, form},
		{api.DSubset, "S", []api.Tree{p, x}, shape}, {api.DSubset, "S", []api.Tree{out, x, x}, form}, {api.DClass, "C", []api.Tree{p}, form}, {api.DConst, "c", []api.Tree{i}, shape},
		{api.DFunction, "f", nil, shape}, {api.DFunction, "f", []api.Tree{result, result}, shape}, {api.DFunction, "f", []api.Tree{result, p}, form}, {api.DFunction, "f", []api.Tree{p, mark, result}, form},
		{api.DFunction, "f", []api.Tree{result, ensures, requires}, form}, {api.DFunction, "f", []api.Tree{result, x, x}, shape}, {api.DFunction, "f", []api.Tree{result, b}, form},
		{api.DFunction, "f", []api.Tree{result, modifies}, form}, {api.DFunction, "f", []api.Tree{x}, shape}, {api.DFunction, "f", []api.Tree{out, result}, form}, {api.DFunction, "f", []api.Tree{result, x, decreases}, form},
		{api.DMethod, "m", []api.Tree{result}, form}, {api.DMethod, "m", []api.Tree{reads}, form}, {api.DMethod, "m", []api.Tree{out, p}, form}, {api.DMethod, "m", []api.Tree{b, b}, shape},
		{api.DMethod, "m", []api.Tree{decreases, decreases}, shape}, {api.DMethod, "m", []api.Tree{x}, form}, {api.DMethod, "m", []api.Tree{ensures, modifies}, form},
		{api.MExport, "", []api.Tree{imp}, form}, {api.MModule, "M", []api.Tree{base, base}, shape}, {api.MModule, "M", []api.Tree{exp, imp}, form}, {api.MModule, "M", []api.Tree{exp, exp}, shape},
		{api.MModule, "M", []api.Tree{class, base}, form}, {api.MModule, "M", []api.Tree{field}, form}, {api.MModule, "M", []api.Tree{b}, form}, {api.MProgram, "", nil, shape}, {api.MProgram, "", []api.Tree{class}, form},
	} {
		s := raw(c.op, c.text, c.kids...)
		if at, e := Check(s); at != len(s)-1 || e != c.want {
			t.Errorf("case %d (Op %d): %d, %d, want %d, %d", n, c.op, at, e, len(s)-1, c.want)
		}
	}
}

func TestCheckOrder(t *testing.T) { // P2.1
	x := api.Node{Op: api.EVar, Text: "x"}
	not := func(kids ...int) api.Node { return api.Node{Op: api.ENot, Kids: kids} }
	and := func(kids ...int) api.Node { return api.Node{Op: api.EAnd, Kids: kids} }
	deep := api.Tree{x}
	for i := range api.MaxDepth - 1 {
		deep = append(deep, not(i))
	}
	wide := make(api.Tree, 0, api.MaxNodes+1)
	seq := api.Node{Op: api.ESeq}
	for i := range api.MaxNodes - 1 {
		wide = append(wide, x)
		seq.Kids = append(seq.Kids, i)
	}
	wide = append(wide, seq)
	negative := api.Node{Op: api.EVar, Text: "x", At: -1}
	for i, c := range []struct {
		t    api.Tree
		at   int
		want api.Errno
	}{
		{nil, 0, api.ErrEmpty}, {wide, 0, api.OK}, {append(slices.Clone(wide), not(len(wide)-1)), 0, api.ErrMany}, {make(api.Tree, 5000), 0, api.ErrMany},
		{api.Tree{{Op: -1, Text: "$"}}, 0, api.ErrKind}, {api.Tree{{Op: api.Ops}}, 0, api.ErrKind}, {api.Tree{x, {Op: 1 << 60, Kids: []int{7}}}, 1, api.ErrKind},
		{api.Tree{{Op: api.EVar, Text: "$", Kids: []int{3}, At: -1}}, 0, api.ErrName},
		{api.Tree{not(-1)}, 0, api.ErrOrder}, {api.Tree{not(0)}, 0, api.ErrOrder}, {api.Tree{not(1)}, 0, api.ErrOrder}, {api.Tree{x, not(1)}, 1, api.ErrOrder},
		{api.Tree{x, x, and(1, 0)}, 2, api.ErrOrder}, {api.Tree{x, x, and(1, 1)}, 2, api.ErrOrder}, {api.Tree{x, x, x, and(0, 2)}, 3, api.ErrOrder},
		{api.Tree{x, x, and(-1, 0, 1)}, 2, api.ErrOrder}, {api.Tree{x, not(0), x, and(0, 2)}, 3, api.ErrOrder}, {api.Tree{x, not(0), x, and(1, 2)}, 0, api.OK},
		{api.Tree{x, not(0, 0)}, 1, api.ErrOrder}, {api.Tree{x, not(-1 << 63)}, 1, api.ErrOrder}, {api.Tree{x, not(1<<63 - 1)}, 1, api.ErrOrder},
		{api.Tree{negative}, 0, api.ErrRange}, {api.Tree{x, {Op: api.ENot, Kids: []int{0}, At: -5}}, 1, api.ErrRange}, {api.Tree{{Op: api.ENot, At: -1}}, 0, api.ErrShape},
		{deep, 0, api.OK}, {append(slices.Clone(deep), not(len(deep)-1)), len(deep), api.ErrDeep},
		{append(slices.Clone(deep), api.Node{Op: api.ENot, Kids: []int{len(deep) - 1}, At: -1}), len(deep), api.ErrRange},
		{api.Tree{x, x}, 1, api.ErrForm}, {api.Tree{x, x, not(1)}, 2, api.ErrForm}, {api.Tree{x, x, x}, 2, api.ErrForm}, {api.Tree{negative, {Op: -1}}, 0, api.ErrRange},
	} {
		if at, e := Check(c.t); at != c.at || e != c.want {
			t.Errorf("case %d: %d, %d, want %d, %d", i, at, e, c.at, c.want)
		}
	}
}

func TestClass(t *testing.T) { // P2.1
	want := map[int][]int{
		Type:        {api.TBool, api.TInt, api.TReal, api.TBits, api.TSeq, api.TSet, api.TMulti, api.TMap, api.TArray, api.TName},
		Pattern:     {api.PVar, api.PWild, api.PCons, api.PLit},
		Clause:      {api.CRequires, api.CEnsures, api.CInvariant, api.CDecreases, api.CReads, api.CModifies},
		Declaration: {api.DDatatype, api.DSubset, api.DClass, api.DConst, api.DFunction, api.DMethod},
		Module:      {api.MModule, api.MProgram},
		Other: {api.ECase, api.QVar, api.QTrigger, api.SLhs, api.SGuard, api.SCase, api.SStep, api.DParam, api.DGhostParam, api.DOut, api.DTypeParam,
			api.DField, api.DGhostField, api.DCons, api.DMark, api.DResult, api.MImport, api.MExport, api.MName, api.MRefines},
	}
	classes := map[int]int{}
	for class, ops := range want {
		for _, op := range ops {
			classes[op] = class
		}
	}
	for op := range api.Ops {
		if _, found := classes[op]; !found {
			classes[op] = Expression
			if op >= api.SBlock {
				classes[op] = Statement
			}
		}
		if c, e := Class(op); c != classes[op] || e != api.OK {
			t.Errorf("Class(%d): %d, %d, want %d", op, c, e, classes[op])
		}
	}
	for _, op := range []int{-1, api.Ops, 1 << 40} {
		if c, e := Class(op); c != 0 || e != api.ErrKind {
			t.Errorf("Class(%d): %d, %d", op, c, e)
		}
	}
}

func TestSame(t *testing.T) { // P2.1
	a := plus(v("x"), number(2))
	b := plus(v("x"), number(2))
	b[0].At, b[2].At = 7, -3
	if !Same(a, b) || !Same(nil, api.Tree{}) || !Same(api.Tree{{Op: -1, Kids: nil}}, api.Tree{{Op: -1, Kids: []int{}}}) {
		t.Error("equal trees differ")
	}
	c, d, f := slices.Clone(a), slices.Clone(a), slices.Clone(a)
	c[0].Text, d[2].Op, f[2].Kids = "y", api.ESub, []int{0, 0}
	for _, o := range []api.Tree{c, d, f, a[:2], nil} {
		if Same(a, o) || Same(o, a) {
			t.Error("different trees are the same", o)
		}
	}
}

func TestDepth(t *testing.T) { // P2.1
	for want, s := range map[int]api.Tree{1: v("x"), 3: plus(v("x"), raw(api.EMul, "", number(2), v("y"))), 2: plus(v("x"), v("y"))} {
		if n, e := Depth(s); n != want || e != api.OK {
			t.Errorf("Depth: %d, %d, want %d", n, e, want)
		}
	}
	if n, e := Depth(nil); n != 0 || e != api.ErrEmpty {
		t.Errorf("Depth of nothing: %d, %d", n, e)
	}
	if n, e := Depth(v("X")); n != 0 || e != api.ErrName {
		t.Errorf("Depth of no tree: %d, %d", n, e)
	}
}

func TestMake(t *testing.T) { // P2.1
	x := v("x")
	x[0].At = 9
	s, e := Make(api.EAdd, "", []api.Tree{x, plus(v("y"), v("z"))})
	want := plus(v("x"), plus(v("y"), v("z")))
	if e != api.OK || !Same(s, want) || s[0].At != 9 || s[4].At != 9 || s[1].At != 0 {
		t.Errorf("Make: %v, %d", s, e)
	}
	if s, e := Make(api.ESeq, "", nil); e != api.OK || len(s) != 1 || s[0].At != 0 {
		t.Errorf("Make without children: %v, %d", s, e)
	}
	var many []api.Tree
	for range 401 {
		many = append(many, v("x"))
	}
	deep := v("x")
	for range 59 {
		deep = raw(api.ENot, "", deep)
	}
	wide := raw(api.ESeq, "", many[:400]...)
	for i, c := range []struct {
		op   int
		text string
		kids []api.Tree
		want api.Errno
	}{
		{api.ESeq, "", many[:400], api.OK}, {api.ESeq, "", many, api.ErrMany}, {-1, "", append(slices.Clone(many), nil), api.ErrMany},
		{-1, "$", []api.Tree{v("x"), v("X"), nil}, api.ErrName}, {api.ESeq, "", []api.Tree{nil, v("X")}, api.ErrEmpty}, {-1, "$", nil, api.ErrKind},
		{api.Ops, "$", []api.Tree{v("x")}, api.ErrKind}, {api.EVar, "X", []api.Tree{v("x")}, api.ErrName}, {api.EAdd, "", []api.Tree{v("x")}, api.ErrShape},
		{api.EAdd, "", []api.Tree{v("x"), integer()}, api.ErrForm}, {api.ENot, "", []api.Tree{deep}, api.ErrDeep}, {api.ENot, "", []api.Tree{deep[:59]}, api.OK},
		{api.ESeq, "", []api.Tree{wide, wide, wide, wide, wide, wide, wide, wide, wide, wide}, api.ErrMany}, {api.ESeq, "", []api.Tree{wide, wide, wide, wide, wide, wide, wide, wide, wide}, api.OK},
	} {
		if s, e := Make(c.op, c.text, c.kids); e != c.want || e != api.OK && s != nil {
			t.Errorf("case %d: %d nodes, %d, want %d", i, len(s), e, c.want)
		}
	}
}

// TestKeywords holds the keywords of the grammar against names.
func TestKeywords(t *testing.T) { // P2.1
	words := "array as assert assume bool by calc call case class const datatype decreases else ensures exists export false forall fresh function " +
		"fuel ghost greatest hidden if import in int invariant least lemma map match method modifies module multiset new old opaque print reads " +
		"real refines requires return returns reveal seq set then true type var while witness bv1 bv9 bv10 bv64"
	for _, w := range strings.Fields(words) {
		if _, e := Check(v(w)); e != api.ErrName {
			t.Errorf("%s is a name", w)
		}
		if _, e := Check(v(w + "_")); e != api.OK {
			t.Errorf("%s_ is not a name", w)
		}
	}
	for _, w := range []string{"bv", "bv0", "bv65", "bv01", "bv100", "bvx", "bv1A", "a", "z", "aAzZ", "A::a", "Z::z"} {
		if _, e := Check(v(w)); e != api.OK {
			t.Errorf("%s is not a name", w)
		}
	}
}

func TestLetters(t *testing.T) { // P2.1
	for _, s := range []string{"A", "Z", "A::Z", "Zz_9"} {
		if _, e := Check(name(s)); e != api.OK {
			t.Errorf("%s is not an upper name", s)
		}
		if _, e := Check(v(s)); e != api.ErrName {
			t.Errorf("%s is a lower name", s)
		}
	}
	for _, s := range []string{"a", "z", "[", "`", "{", "@", "a::A"} {
		if _, e := Check(name(s)); e != api.ErrName {
			t.Errorf("%s is an upper name", s)
		}
	}
}

// TestRandomTrees makes trees by the table, and changes one node of each.
func TestRandomTrees(t *testing.T) { // P2.1
	g := generator{rand.New(rand.NewSource(1))}
	for range 3000 {
		s := g.any()
		if at, e := Check(s); at != 0 || e != api.OK {
			t.Fatalf("Check: %d, %d of %v", at, e, s)
		}
		i := g.Intn(len(s))
		broken := slices.Clone(s)
		want := api.ErrKind
		switch g.Intn(4) {
		case 0:
			broken[i].Op = -1 - g.Intn(3)
		case 1:
			broken[i].Text, want = "$", api.ErrName
		case 2:
			broken[i].At, want = -1, api.ErrRange
		case 3:
			broken[i].Kids, want = []int{i + 1}, api.ErrOrder
		}
		if at, e := Check(broken); at != i || e != want {
			t.Fatalf("Check: %d, %d, want %d, %d", at, e, i, want)
		}
	}
}
