package tree

import (
	"math/rand"
	"strings"
	"testing"

	"entail/api"
)

func checkPrint(t *testing.T, s api.Tree, want ...string) {
	t.Helper()
	if got := mustPrint(t, s); got != strings.Join(want, "\n") {
		t.Errorf("Print:\n%s\nwant:\n%s", got, strings.Join(want, "\n"))
	}
}

func binary(op int, a, b api.Tree) api.Tree { return raw(op, "", a, b) }

func TestPrintExpressions(t *testing.T) { // P2.4
	a, b, c := v("a"), v("b"), v("c")
	i := integer()
	q := raw(api.QVar, "x", i)
	quantifier := quantified1("x", a)
	for _, k := range []struct {
		s    api.Tree
		want string
	}{
		{sum(), "x + 2 * y"}, {binary(api.EMul, plus(a, b), c), "(a + b) * c"}, {binary(api.ESub, a, binary(api.ESub, b, c)), "a - (b - c)"},
		{binary(api.ESub, binary(api.ESub, a, b), c), "a - b - c"}, {binary(api.EImp, a, binary(api.EImp, b, c)), "a ==> b ==> c"},
		{binary(api.EImp, binary(api.EImp, a, b), c), "(a ==> b) ==> c"}, {binary(api.EImp, binary(api.EOr, a, b), binary(api.EIff, b, c)), "a || b ==> (b <==> c)"},
		{binary(api.EIff, binary(api.EIff, a, b), c), "a <==> b <==> c"}, {binary(api.EIff, a, binary(api.EIff, b, c)), "a <==> (b <==> c)"},
		{binary(api.EIff, binary(api.EImp, a, b), binary(api.EImp, b, c)), "a ==> b <==> b ==> c"},
		{binary(api.EAnd, binary(api.EOr, a, b), binary(api.EEq, b, c)), "(a || b) && b == c"}, {binary(api.EOr, binary(api.EAnd, a, b), c), "a && b || c"},
		{binary(api.EEq, binary(api.EEq, a, b), c), "(a == b) == c"}, {binary(api.ELt, a, binary(api.EIn, b, c)), "a < (b in c)"}, {binary(api.ENe, binary(api.EBitOr, a, b), c), "a | b != c"},
		{binary(api.EBitAnd, binary(api.EBitXor, a, b), binary(api.EBitOr, b, c)), "a ^ b & (b | c)"}, {binary(api.EShl, binary(api.EShr, a, b), plus(b, c)), "a >> b << b + c"},
		{binary(api.EShr, a, binary(api.EShl, b, c)), "a >> (b << c)"}, {binary(api.EDiv, binary(api.EMod, a, b), binary(api.EMul, b, c)), "a % b / (b * c)"}, {binary(api.ELe, a, b), "a <= b"},
		{raw(api.ENot, "", binary(api.EIn, a, v("s"))), "!(a in s)"}, {binary(api.EIn, raw(api.ENot, "", a), b), "!a in b"}, {raw(api.ENeg, "", raw(api.ENeg, "", number(5))), "--5"},
		{raw(api.ECard, "", raw(api.ENot, "", a)), "#!a"}, {raw(api.ENeg, "", plus(a, b)), "-(a + b)"}, {raw(api.ENeg, "", raw(api.EField, "f", a)), "-a.f"},
		{raw(api.EField, "f", raw(api.ENeg, "", a)), "(-a).f"}, {raw(api.ECard, "", raw(api.ESeq, "", a)), "#[a]"},
		{raw(api.EAs, "", plus(a, b), raw(api.TBits, "8")), "(a + b as bv8)"}, {binary(api.EMul, raw(api.EAs, "", a, i), b), "(a as int) * b"},
		{raw(api.EIf, "", a, quantifier, c), "if a then forall x: int :: a else c"}, {plus(raw(api.EIf, "", a, b, c), raw(api.EIf, "", a, b, c)), "(if a then b else c) + (if a then b else c)"},
		{raw(api.ELet, "x", raw(api.ELet, "y", a, b), c), "var x := var y := a; b; c"}, {raw(api.ENot, "", raw(api.ELet, "x", a, b)), "!(var x := a; b)"},
		{raw(api.ECall, "M::f", raw(api.EIf, "", a, b, c), b), "M::f(if a then b else c, b)"}, {raw(api.ECall, "f"), "f()"}, {raw(api.ECons, "M::C"), "M::C"}, {raw(api.ECons, "C", a, b), "C(a, b)"},
		{raw(api.EField, "g", raw(api.EField, "f", a)), "a.f.g"}, {raw(api.EField, "f", quantifier), "(forall x: int :: a).f"}, {raw(api.EIs, "C", plus(a, b)), "(a + b).C?"}, {raw(api.EIs, "M::C", a), "a.M::C?"},
		{binary(api.EIndex, raw(api.ESeq, "", a, b), plus(a, b)), "[a, b][a + b]"}, {raw(api.ESlice, "", a, quantifier, c), "a[forall x: int :: a..c]"}, {raw(api.EUpdate, "", a, b, c), "a[b := c]"},
		{raw(api.EField, "f", number(1)), "1.f"}, {raw(api.EField, "f", raw(api.EReal, "1.5")), "1.5.f"}, {raw(api.ESeq, ""), "[]"}, {raw(api.ESet, ""), "{}"}, {raw(api.ESet, "", a, b), "{a, b}"},
		{raw(api.EMulti, ""), "multiset{}"}, {raw(api.EMulti, "", a, a), "multiset{a, a}"}, {raw(api.EMap, ""), "map[]"}, {raw(api.EMap, "", a, b, c, plus(a, b)), "map[a := b, c := a + b]"},
		{raw(api.EExists, "", q, raw(api.QVar, "y", raw(api.TReal, "")), raw(api.QTrigger, "", a, b), raw(api.QTrigger, "", c), b), "exists x: int, y: real {a, b} {c} :: b"},
		{binary(api.EImp, a, quantifier), "a ==> (forall x: int :: a)"}, {raw(api.EForall, "", q, binary(api.EImp, a, b)), "forall x: int :: a ==> b"},
		{raw(api.ESetOf, "", q, a, b), "set x: int | a :: b"}, {binary(api.EIn, a, raw(api.ESetOf, "", q, a, b)), "a in (set x: int | a :: b)"},
		{raw(api.EMatch, "", a, raw(api.ECase, "", raw(api.PCons, "C", raw(api.PVar, "x"), wild()), b), raw(api.ECase, "", wild(), c)), "match a { case C(x, _) => b case _ => c }"},
		{plus(a, raw(api.EMatch, "", a, raw(api.ECase, "", wild(), b))), "a + (match a { case _ => b })"}, {raw(api.EOld, "", plus(a, b)), "old(a + b)"}, {raw(api.EFresh, "", a), "fresh(a)"},
		{raw(api.EBool, "true"), "true"}, {raw(api.EReal, "0.25"), "0.25"}, {number(0), "0"}, {v("M::c"), "M::c"},
	} {
		checkPrint(t, k.s, k.want)
	}
}

func TestPrintTypesAndPatterns(t *testing.T) { // P2.4
	i := integer()
	for _, k := range []struct {
		s    api.Tree
		want string
	}{
		{raw(api.TBool, ""), "bool"}, {i, "int"}, {raw(api.TReal, ""), "real"}, {raw(api.TBits, "64"), "bv64"}, {raw(api.TSeq, "", i), "seq<int>"},
		{raw(api.TSet, "", raw(api.TSeq, "", i)), "set<seq<int>>"}, {raw(api.TMulti, "", i), "multiset<int>"}, {raw(api.TMap, "", i, raw(api.TBool, "")), "map<int, bool>"},
		{raw(api.TArray, "", raw(api.TBits, "8")), "array<bv8>"}, {name("C"), "C"}, {name("M::C", i, name("T")), "M::C<int, T>"},
		{wild(), "_"}, {raw(api.PVar, "x"), "x"}, {raw(api.PCons, "C"), "C"}, {raw(api.PCons, "M::C", wild(), raw(api.PCons, "D", raw(api.PVar, "x"))), "M::C(_, D(x))"},
		{raw(api.PLit, "", number(7)), "7"}, {raw(api.PLit, "", raw(api.ENeg, "", number(7))), "-7"}, {raw(api.PLit, "", raw(api.EBool, "false")), "false"},
	} {
		checkPrint(t, k.s, k.want)
	}
}

func TestPrintOthers(t *testing.T) { // P2.4
	a, i := v("a"), integer()
	for _, k := range []struct {
		s    api.Tree
		want string
	}{
		{raw(api.QVar, "x", i), "x: int"}, {raw(api.DParam, "x", i), "x: int"}, {raw(api.DOut, "x", i), "x: int"}, {raw(api.DField, "x", i), "x: int"}, {raw(api.DGhostParam, "x", i), "ghost x: int"},
		{raw(api.DGhostField, "x", i), "ghost var x: int;"}, {raw(api.QTrigger, "", a, a), "{a, a}"}, {raw(api.ECase, "", wild(), a), "case _ => a"}, {raw(api.SLhs, ""), ""},
		{raw(api.SLhs, "", a, v("b")), "a, b"}, {raw(api.DTypeParam, "T"), "T"}, {raw(api.DMark, "fuel 3"), "fuel 3"}, {raw(api.MName, "+f"), "+f"}, {raw(api.DResult, "", i), "int"},
		{raw(api.DCons, "C"), "C"}, {raw(api.DCons, "C", raw(api.DField, "f", i), raw(api.DField, "g", name("T"))), "C(f: int, g: T)"}, {raw(api.MImport, "A"), "import A;"},
		{raw(api.MExport, ""), "export;"}, {raw(api.MExport, "", raw(api.MName, "a"), raw(api.MName, "+b")), "export a, +b;"}, {raw(api.MRefines, "N"), "refines N"},
		{raw(api.CRequires, "", a), "requires a"}, {raw(api.CEnsures, "", a), "ensures a"}, {raw(api.CInvariant, "", a), "invariant a"}, {raw(api.CDecreases, "", a, number(1)), "decreases a, 1"},
		{raw(api.CReads, "", a), "reads a"}, {raw(api.CModifies, "", a), "modifies a"},
	} {
		checkPrint(t, k.s, k.want)
	}
	body := block(raw(api.SReturn, ""))
	checkPrint(t, raw(api.SGuard, "", a, body), "case a => {", "  return;", "}")
	checkPrint(t, raw(api.SCase, "", wild(), body), "case _ => {", "  return;", "}")
	checkPrint(t, raw(api.SStep, "", a), "a;")
	checkPrint(t, raw(api.SStep, "", a, body), "a;")
	checkPrint(t, raw(api.SStep, "==", a), "a;", "==")
	checkPrint(t, raw(api.SStep, "<=", raw(api.ESet, "", a), body), "({a});", "<= {", "  return;", "}")
}

func TestPrintStatements(t *testing.T) { // P2.4
	a, b, i := v("a"), v("b"), integer()
	x := v("x")
	body := block(raw(api.SReturn, ""))
	set := raw(api.ESet, "", a)
	field := raw(api.EField, "f", a)
	for _, k := range []struct {
		s    api.Tree
		want string
	}{
		{block(), "{\n}"}, {block(block(), raw(api.SReturn, "")), "{\n  {\n  }\n  return;\n}"}, {raw(api.SVar, "x", i), "var x: int;"}, {raw(api.SVar, "x", i, a), "var x: int := a;"},
		{raw(api.SGhostVar, "x", i), "ghost var x: int;"}, {raw(api.SGhostVar, "x", i, a), "ghost var x: int := a;"}, {raw(api.SAssign, "", x, a), "x := a;"}, {raw(api.SAssign, "", field, a), "a.f := a;"},
		{raw(api.SAssign, "", binary(api.EIndex, set, a), set), "({a}[a]) := {a};"}, {raw(api.SHavoc, "", x), "x := *;"}, {raw(api.SHavoc, "", raw(api.EField, "f", set)), "({a}.f) := *;"},
		{raw(api.SAssign, "", raw(api.EField, "f", plus(set, a)), a), "({a} + a).f := a;"}, {raw(api.SChoose, "x", less(x, a)), "x :| x < a;"},
		{raw(api.SCall, "M::m", raw(api.SLhs, "")), "call M::m();"}, {raw(api.SCall, "m", raw(api.SLhs, "", x, a), a, b), "x, a := call m(a, b);"},
		{raw(api.SNew, "x", name("C", i), a, b), "x := new C<int>(a, b);"}, {raw(api.SNew, "x", name("C")), "x := new C();"}, {raw(api.SNewArray, "x", i, a, b), "x := new array<int>(a, b);"},
		{raw(api.SIf, "", a, body), "if a {\n  return;\n}"}, {raw(api.SIf, "", a, body, block()), "if a {\n  return;\n} else {\n}"},
		{raw(api.SIf, "", a, block(), raw(api.SIf, "", b, body, raw(api.SIf, "", set, block(), body))), "if a {\n} else if b {\n  return;\n} else if ({a}) {\n} else {\n  return;\n}"},
		{raw(api.SIf, "", binary(api.EEq, set, set), block()), "if ({a} == {a}) {\n}"}, {raw(api.SWhile, "", binary(api.EEq, set, set), block()), "while {a} == {a}\n{\n}"},
		{raw(api.SAlt, "", raw(api.SGuard, "", a, body), raw(api.SGuard, "", b, block())), "if {\n  case a => {\n    return;\n  }\n  case b => {\n  }\n}"},
		{raw(api.SWhile, "", a, raw(api.CInvariant, "", a), raw(api.CInvariant, "", b), raw(api.CDecreases, "", a, b), raw(api.CModifies, "", x), body), "while a\n  invariant a\n  invariant b\n  decreases a, b\n  modifies x\n{\n  return;\n}"},
		{raw(api.SMatch, "", a, raw(api.SCase, "", raw(api.PCons, "C", wild()), body), raw(api.SCase, "", wild(), block())), "match a {\n  case C(_) => {\n    return;\n  }\n  case _ => {\n  }\n}"},
		{raw(api.SAssert, "", a), "assert a;"}, {raw(api.SAssert, "l", a), "assert l: a;"}, {raw(api.SAssert, "", a, body), "assert a by {\n  return;\n}"}, {raw(api.SAssert, "l", set, block()), "assert l: {a} by {\n}"},
		{raw(api.SAssume, "", a), "assume a;"}, {raw(api.SCalc, "", raw(api.SStep, "==", a, body), raw(api.SStep, "<", set), raw(api.SStep, "", b)), "calc {\n  a;\n  == {\n    return;\n  }\n  ({a});\n  <\n  b;\n}"},
		{raw(api.SForall, "", raw(api.QVar, "x", i), raw(api.QVar, "y", i), a, raw(api.CEnsures, "", b), body), "forall x: int, y: int | a\n  ensures b\n{\n  return;\n}"},
		{raw(api.SReturn, ""), "return;"}, {raw(api.SPrint, "", set), "print {a};"}, {raw(api.SReveal, "M::f"), "reveal M::f;"},
		{block(raw(api.SWhile, "", a, raw(api.CInvariant, "", a), block(raw(api.SIf, "", a, block(), body)))), "{\n  while a\n    invariant a\n  {\n    if a {\n    } else {\n      return;\n    }\n  }\n}"},
	} {
		checkPrint(t, k.s, k.want)
	}
}

func TestPrintDeclarations(t *testing.T) { // P2.4
	a, i := v("a"), integer()
	marks := []api.Tree{raw(api.DMark, "ghost"), raw(api.DMark, "fuel 2")}
	p, q := raw(api.DParam, "x", i), raw(api.DGhostParam, "y", name("U"))
	variable := raw(api.DTypeParam, "T")
	for _, k := range []struct {
		s    api.Tree
		want string
	}{
		{raw(api.DDatatype, "D", variable, raw(api.DTypeParam, "U"), raw(api.DCons, "C", raw(api.DField, "f", name("T")), raw(api.DField, "g", i)), raw(api.DCons, "E")), "datatype D<T, U> = C(f: T, g: int) | E"},
		{raw(api.DDatatype, "M::D", raw(api.DCons, "M::E")), "datatype M::D = M::E"}, {raw(api.DSubset, "S", p, less(number(0), v("x")), number(1)), "type S = x: int | 0 < x witness 1"},
		{raw(api.DClass, "C", raw(api.DField, "f", i), raw(api.DGhostField, "g", name("T"))), "class C {\n  var f: int;\n  ghost var g: T;\n}"}, {raw(api.DClass, "C"), "class C {\n}"},
		{raw(api.DConst, "c", i, plus(a, a)), "const c: int := a + a;"}, {raw(api.DFunction, "f", raw(api.DResult, "", i)), "function f(): int"},
		{raw(api.DFunction, "f", marks[0], marks[1], variable, p, q, raw(api.DResult, "", i), raw(api.CRequires, "", a), raw(api.CReads, "", a), raw(api.CEnsures, "", a), raw(api.CDecreases, "", a, a), raw(api.EIf, "", a, a, a)),
			"ghost fuel 2 function f<T>(x: int, ghost y: U): int\n  requires a\n  reads a\n  ensures a\n  decreases a, a\n{\n  if a then a else a\n}"},
		{raw(api.DMethod, "m"), "method m()"}, {raw(api.DMethod, "m", p, block()), "method m(x: int)\n{\n}"},
		{raw(api.DMethod, "m", raw(api.DMark, "lemma"), variable, p, q, raw(api.DOut, "o", i), raw(api.DOut, "r", i), raw(api.CRequires, "", a), raw(api.CModifies, "", a), raw(api.CEnsures, "", a), raw(api.CDecreases, "", a), block(raw(api.SReturn, ""))),
			"lemma method m<T>(x: int, ghost y: U) returns (o: int, r: int)\n  requires a\n  modifies a\n  ensures a\n  decreases a\n{\n  return;\n}"},
		{raw(api.DMethod, "m", raw(api.CRequires, "", a)), "method m()\n  requires a"},
	} {
		checkPrint(t, k.s, k.want)
	}
}

func TestPrintModules(t *testing.T) { // P2.4
	i := integer()
	constant := raw(api.DConst, "c", i, number(1))
	class := raw(api.DClass, "C", raw(api.DField, "f", i))
	export := raw(api.MExport, "", raw(api.MName, "c"), raw(api.MName, "+D"))
	nameless := raw(api.MModule, "", raw(api.MRefines, "N"), raw(api.MImport, "A"), export, constant, class)
	named := raw(api.MModule, "M", raw(api.MRefines, "N"), raw(api.MImport, "A"), raw(api.MImport, "B"), export, constant, class)
	lines := []string{"import A;", "export c, +D;", "const c: int := 1;", "class C {", "  var f: int;", "}"}
	checkPrint(t, nameless, lines...)
	checkPrint(t, named, "module M refines N {", "  import A;", "  import B;", "  export c, +D;", "  const c: int := 1;", "  class C {", "    var f: int;", "  }", "}")
	checkPrint(t, raw(api.MModule, "M"), "module M {", "}")
	checkPrint(t, raw(api.MModule, ""), "")
	checkPrint(t, raw(api.MProgram, "", raw(api.MModule, ""), raw(api.MModule, "M"), raw(api.MModule, "")), "module M {", "}")
	checkPrint(t, raw(api.MProgram, "", nameless, raw(api.MModule, "M", constant)), append(lines, "module M {", "  const c: int := 1;", "}")...)
	checkPrint(t, raw(api.MProgram, "", raw(api.MModule, "")), "")
}

func TestPrintErrors(t *testing.T) { // P2.4
	for want, s := range map[api.Errno]api.Tree{api.ErrEmpty: nil, api.ErrName: v("X"), api.ErrKind: {{Op: 200}}, api.ErrOrder: {{Op: api.ENot, Kids: []int{0}}}} {
		if text, e := Print(s); text != "" || e != want {
			t.Errorf("Print: %q, %d, want %d", text, e, want)
		}
	}
	digits := strings.Repeat("7", 118)
	var list []api.Tree
	for range 546 {
		list = append(list, raw(api.EInt, digits))
	}
	fill := func(n int) api.Tree {
		return raw(api.ESeq, "", append(list[:len(list):len(list)], raw(api.EInt, strings.Repeat("7", n)))...)
	}
	// 546 numbers of 118 digits with a comma and a space each, two brackets, and the last number.
	rest := api.MaxText - 546*120 - 2
	if text, e := Print(fill(rest)); len(text) != api.MaxText || e != api.OK {
		t.Errorf("Print: %d bytes, %d", len(text), e)
	}
	if text, e := Print(fill(rest + 1)); text != "" || e != api.ErrLong {
		t.Errorf("Print: %d bytes, %d", len(text), e)
	}
}

// TestPrintAll prints trees of all Ops, and random ones: there is never a line feed at the end, and each line has an even indentation.
func TestPrintAll(t *testing.T) { // P2.4
	g := generator{rand.New(rand.NewSource(5))}
	var list []api.Tree
	for op := range api.Ops {
		list = append(list, sample(op)...)
	}
	for range 500 {
		list = append(list, g.any())
	}
	for _, s := range list {
		text, e := Print(s)
		if e == api.ErrLong {
			continue
		}
		if e != api.OK || strings.HasSuffix(text, "\n") || strings.Contains(text, "\n\n") {
			t.Fatalf("Print of Op %d: %q, %d", s[len(s)-1].Op, text, e)
		}
		for _, line := range strings.Split(text, "\n") {
			if (len(line)-len(strings.TrimLeft(line, " ")))%2 != 0 || strings.HasSuffix(line, " ") || strings.Contains(strings.TrimLeft(line, " "), "  ") {
				t.Fatalf("Print: the line %q", line)
			}
		}
	}
}
