package parse

import (
	"strconv"
	"strings"
	"testing"

	"entail/api"
)

// names are short names of the Ops in the tests of offsets.
var names = map[int]string{
	api.TBool: "TBool", api.TInt: "TInt", api.TReal: "TReal", api.TSet: "TSet", api.TMulti: "TMulti", api.TMap: "TMap", api.TArray: "TArray", api.TBits: "TBits", api.TSeq: "TSeq", api.TName: "TName", api.EInt: "EInt", api.EBool: "EBool", api.EVar: "EVar",
	api.ENot: "ENot", api.ENeg: "ENeg", api.EAdd: "EAdd", api.ESub: "ESub", api.EMul: "EMul", api.EOr: "EOr", api.EIff: "EIff", api.EBitAnd: "EBitAnd", api.EBitOr: "EBitOr", api.EShl: "EShl", api.EAnd: "EAnd", api.EImp: "EImp", api.EEq: "EEq",
	api.ELt: "ELt", api.ELe: "ELe", api.EIn: "EIn", api.EAs: "EAs", api.EIf: "EIf", api.ELet: "ELet", api.ECall: "ECall", api.ECons: "ECons",
	api.EField: "EField", api.EIs: "EIs", api.EIndex: "EIndex", api.ESlice: "ESlice", api.EUpdate: "EUpdate", api.ECard: "ECard",
	api.ESeq: "ESeq", api.ESet: "ESet", api.EMulti: "EMulti", api.EMap: "EMap", api.EForall: "EForall", api.EExists: "EExists",
	api.ESetOf: "ESetOf", api.EMatch: "EMatch", api.ECase: "ECase", api.EOld: "EOld", api.EFresh: "EFresh", api.QVar: "QVar",
	api.QTrigger: "QTrigger", api.PVar: "PVar", api.PWild: "PWild", api.PCons: "PCons", api.PLit: "PLit", api.SBlock: "SBlock",
	api.SVar: "SVar", api.SGhostVar: "SGhostVar", api.SAssign: "SAssign", api.SHavoc: "SHavoc", api.SChoose: "SChoose", api.SCall: "SCall",
	api.SLhs: "SLhs", api.SNew: "SNew", api.SNewArray: "SNewArray", api.SIf: "SIf", api.SAlt: "SAlt", api.SGuard: "SGuard",
	api.SWhile: "SWhile", api.SMatch: "SMatch", api.SCase: "SCase", api.SAssert: "SAssert", api.SAssume: "SAssume", api.SCalc: "SCalc",
	api.SStep: "SStep", api.SForall: "SForall", api.SReturn: "SReturn", api.SPrint: "SPrint", api.SReveal: "SReveal",
	api.CRequires: "CRequires", api.CEnsures: "CEnsures", api.CInvariant: "CInvariant", api.CDecreases: "CDecreases", api.CReads: "CReads",
	api.CModifies: "CModifies", api.DParam: "DParam", api.DGhostParam: "DGhostParam", api.DOut: "DOut", api.DTypeParam: "DTypeParam",
	api.DField: "DField", api.DGhostField: "DGhostField", api.DCons: "DCons", api.DDatatype: "DDatatype", api.DSubset: "DSubset",
	api.DClass: "DClass", api.DConst: "DConst", api.DMark: "DMark", api.DFunction: "DFunction", api.DResult: "DResult", api.DMethod: "DMethod",
	api.MImport: "MImport", api.MExport: "MExport", api.MName: "MName", api.MRefines: "MRefines", api.MModule: "MModule", api.MProgram: "MProgram",
}

// dump writes a node as its Op, its text and its offset, and its children in parentheses.
func dump(t api.Tree, node int) string {
	n := t[node]
	text := names[n.Op]
	if n.Text != "" {
		text += ":" + n.Text
	}
	text += "@" + strconv.Itoa(n.At)
	var kids []string
	for _, kid := range n.Kids {
		kids = append(kids, dump(t, kid))
	}
	if len(kids) > 0 {
		text += "(" + strings.Join(kids, " ") + ")"
	}
	return text
}

// reads checks that a text is read as a tree.
func reads(t *testing.T, parse func(string) (api.Tree, int, api.Errno), s, want string) {
	t.Helper()
	p, at, e := parse(s)
	if e != api.OK || at != 0 {
		t.Errorf("%q: %d, %d", s, at, e)
		return
	}
	if got := dump(p, len(p)-1); got != want {
		t.Errorf("%q: %s, want %s", s, got, want)
	}
}

// fails checks that a text has an error.
func fails(t *testing.T, parse func(string) (api.Tree, int, api.Errno), s string, at int, want api.Errno) {
	t.Helper()
	if p, got, e := parse(s); p != nil || got != at || e != want {
		t.Errorf("%.80q: %d nodes, %d, %d, want %d, %d", s, len(p), got, e, at, want)
	}
}

func TestExpressions(t *testing.T) { // P4.1
	for _, c := range [][2]string{
		{`0 <= i < n`, `EAnd@7(ELe@2(EInt:0@0 EVar:i@5) ELt@7(EVar:i@5 EVar:n@9))`},
		{`a > b`, `ELt@2(EVar:b@4 EVar:a@0)`},
		{`a >= b > c == d`, `EAnd@11(EAnd@7(ELe@2(EVar:b@5 EVar:a@0) ELt@7(EVar:c@9 EVar:b@5)) EEq@11(EVar:c@9 EVar:d@14))`},
		{`a !in s`, `ENot@2(EIn@2(EVar:a@0 EVar:s@6))`},
		{`!a in s`, `EIn@3(ENot@0(EVar:a@1) EVar:s@6)`},
		{`-x.f * 2`, `EMul@5(ENeg@0(EField:f@2(EVar:x@1)) EInt:2@7)`},
		{`a - b - c`, `ESub@6(ESub@2(EVar:a@0 EVar:b@4) EVar:c@8)`},
		{`a ==> b ==> c`, `EImp@2(EVar:a@0 EImp@8(EVar:b@6 EVar:c@12))`},
		{`a <==> b <==> c`, `EIff@9(EIff@2(EVar:a@0 EVar:b@7) EVar:c@14)`},
		{`a || b && c == d & e << f + g * -h`, `EOr@2(EVar:a@0 EAnd@7(EVar:b@5 EEq@12(EVar:c@10 EBitAnd@17(EVar:d@15 EShl@21(EVar:e@19 EAdd@26(EVar:f@24 EMul@30(EVar:g@28 ENeg@32(EVar:h@33))))))))`},
		{`(x as bv8)`, `EAs@0(EVar:x@1 TBits:8@6)`},
		{`((a))`, `EVar:a@2`},
		{`if a then b else c`, `EIf@0(EVar:a@3 EVar:b@10 EVar:c@17)`},
		{`var x := a; b`, `ELet:x@0(EVar:a@9 EVar:b@12)`},
		{`forall x: int, y: T {f(x)} {y, x} :: x`, `EForall@0(QVar:x@7(TInt@10) QVar:y@15(TName:T@18) QTrigger@20(ECall:f@21(EVar:x@23)) QTrigger@27(EVar:y@28 EVar:x@31) EVar:x@37)`},
		{`exists x: int :: x`, `EExists@0(QVar:x@7(TInt@10) EVar:x@17)`},
		{`set x: int | x | y :: x`, `ESetOf@0(QVar:x@4(TInt@7) EBitOr@15(EVar:x@13 EVar:y@17) EVar:x@22)`},
		{`match a { case C(x, _) => b case -3 => c case true => d }`, `EMatch@0(EVar:a@6 ECase@10(PCons:C@15(PVar:x@17 PWild@20) EVar:b@26) ECase@28(PLit@33(ENeg@33(EInt:3@34)) EVar:c@39) ECase@41(PLit@46(EBool:true@46) EVar:d@54))`},
		{`x.f[1].C?`, `EIs:C@6(EIndex@3(EField:f@1(EVar:x@0) EInt:1@4))`},
		{`x.M::C?`, `EIs:M::C@1(EVar:x@0)`},
		{`s[0..n]`, `ESlice@1(EVar:s@0 EInt:0@2 EVar:n@5)`},
		{`s[i := a]`, `EUpdate@1(EVar:s@0 EVar:i@2 EVar:a@7)`},
		{`[a, {b}, multiset{}]`, `ESeq@0(EVar:a@1 ESet@4(EVar:b@5) EMulti@9)`},
		{`map[a := b, c := d]`, `EMap@0(EVar:a@4 EVar:b@9 EVar:c@12 EVar:d@17)`},
		{`old(fresh(a))`, `EOld@0(EFresh@4(EVar:a@10))`},
		{`M::f(1)`, `ECall:M::f@0(EInt:1@5)`},
		{`M::x`, `EVar:M::x@0`},
		{`C`, `ECons:C@0`},
		{`C()`, `ECons:C@0`},
		{`M::C(a)`, `ECons:M::C@0(EVar:a@5)`},
		{`#s`, `ECard@0(EVar:s@1)`},
		{`!!a`, `ENot@0(ENot@1(EVar:a@2))`},
	} {
		reads(t, Expression, c[0], c[1])
	}
}

func TestTypes(t *testing.T) { // P4.1
	for _, c := range [][2]string{
		{`map<int, seq<seq<int>>>`, `TMap@0(TInt@4 TSeq@9(TSeq@13(TInt@17)))`},
		{`bv8`, `TBits:8@0`},
		{`C<M::D<int>,int>`, `TName:C@0(TName:M::D@2(TInt@7) TInt@12)`},
		{`array<multiset<set<real>>>`, `TArray@0(TMulti@6(TSet@15(TReal@19)))`},
		{`bool`, `TBool@0`},
	} {
		reads(t, Type, c[0], c[1])
	}
}

func TestPatterns(t *testing.T) { // P4.1
	for _, c := range [][2]string{
		{`x`, `PVar:x@0`},
		{`_`, `PWild@0`},
		{`C`, `PCons:C@0`},
		{`C()`, `PCons:C@0`},
		{`M::C(x, D(_, -1))`, `PCons:M::C@0(PVar:x@5 PCons:D@8(PWild@10 PLit@13(ENeg@13(EInt:1@14))))`},
		{`12`, `PLit@0(EInt:12@0)`},
		{`- 0`, `PLit@0(ENeg@0(EInt:0@2))`},
		{`true`, `PLit@0(EBool:true@0)`},
		{`false`, `PLit@0(EBool:false@0)`},
	} {
		reads(t, Pattern, c[0], c[1])
	}
}

func TestStatements(t *testing.T) { // P4.2
	for _, c := range [][2]string{
		{`{ x := 1; { } }`, `SBlock@0(SAssign@2(EVar:x@2 EInt:1@7) SBlock@10)`},
		{`var x: int;`, `SVar:x@0(TInt@7)`},
		{`ghost var x: int := 1;`, `SGhostVar:x@0(TInt@13 EInt:1@20)`},
		{`x := a;`, `SAssign@0(EVar:x@0 EVar:a@5)`},
		{`x.f := a;`, `SAssign@0(EField:f@1(EVar:x@0) EVar:a@7)`},
		{`(x.f) := a;`, `SAssign@0(EField:f@2(EVar:x@1) EVar:a@9)`},
		{`({a}[0]) := a;`, `SAssign@0(EIndex@4(ESet@1(EVar:a@2) EInt:0@5) EVar:a@12)`},
		{`x[0] := *;`, `SHavoc@0(EIndex@1(EVar:x@0 EInt:0@2))`},
		{`x := *;`, `SHavoc@0(EVar:x@0)`},
		{`x :| a;`, `SChoose:x@0(EVar:a@5)`},
		{`call M::m(a, b);`, `SCall:M::m@0(SLhs@0 EVar:a@10 EVar:b@13)`},
		{`x, y := call m();`, `SCall:m@0(SLhs@0(EVar:x@0 EVar:y@3))`},
		{`x := call m(1);`, `SCall:m@0(SLhs@0(EVar:x@0) EInt:1@12)`},
		{`x := f(1);`, `SAssign@0(EVar:x@0 ECall:f@5(EInt:1@7))`},
		{`x := new C<int>(a, b);`, `SNew:x@0(TName:C@9(TInt@11) EVar:a@16 EVar:b@19)`},
		{`x := new M::C();`, `SNew:x@0(TName:M::C@9)`},
		{`x := new array<seq<int>>(n, a);`, `SNewArray:x@0(TSeq@15(TInt@19) EVar:n@25 EVar:a@28)`},
		{`if a { }`, `SIf@0(EVar:a@3 SBlock@5)`},
		{`if a { } else { }`, `SIf@0(EVar:a@3 SBlock@5 SBlock@14)`},
		{`if a { } else if b { }`, `SIf@0(EVar:a@3 SBlock@5 SIf@14(EVar:b@17 SBlock@19))`},
		{`if { case a => { } case b => { } }`, `SAlt@0(SGuard@5(EVar:a@10 SBlock@15) SGuard@19(EVar:b@24 SBlock@29))`},
		{`while a { }`, `SWhile@0(EVar:a@6 SBlock@8)`},
		{`while {1} == s decreases b, c modifies d invariant e modifies f invariant g { }`, `SWhile@0(EEq@10(ESet@6(EInt:1@7) EVar:s@13) CInvariant@41(EVar:e@51) CInvariant@64(EVar:g@74) CDecreases@15(EVar:b@25 EVar:c@28) CModifies@30(EVar:d@39) CModifies@53(EVar:f@62) SBlock@76)`},
		{`match a { case C(x) => { } case _ => { } }`, `SMatch@0(EVar:a@6 SCase@10(PCons:C@15(PVar:x@17) SBlock@23) SCase@27(PWild@32 SBlock@37))`},
		{`assert a;`, `SAssert@0(EVar:a@7)`},
		{`assert l: a;`, `SAssert:l@0(EVar:a@10)`},
		{`assert l == a by { }`, `SAssert@0(EEq@9(EVar:l@7 EVar:a@12) SBlock@17)`},
		{`assert l: a by { }`, `SAssert:l@0(EVar:a@10 SBlock@15)`},
		{`assume a;`, `SAssume@0(EVar:a@7)`},
		{`print a;`, `SPrint@0(EVar:a@6)`},
		{`return;`, `SReturn@0`},
		{`reveal M::f;`, `SReveal:M::f@0`},
		{`calc { a; }`, `SCalc@0(SStep@7(EVar:a@7))`},
		{`calc { (a); == b + c; ==> { } d; <= ({e}) == f; < { } {g}; }`, `SCalc@0(SStep:==@7(EVar:a@8) SStep:==>@15(EAdd@17(EVar:b@15 EVar:c@19) SBlock@26) SStep:<=@30(EVar:d@30) SStep:<@36(EEq@42(ESet@37(EVar:e@38) EVar:f@45) SBlock@50) SStep@54(ESet@54(EVar:g@55)))`},
		{`calc { {a}; }`, `SCalc@0(SStep@7(ESet@7(EVar:a@8)))`},
		{`forall x: int, y: int | a | b ensures c { }`, `SForall@0(QVar:x@7(TInt@10) QVar:y@15(TInt@18) EBitOr@26(EVar:a@24 EVar:b@28) CEnsures@30(EVar:c@38) SBlock@40)`},
	} {
		reads(t, Statement, c[0], c[1])
	}
}

func TestDeclarations(t *testing.T) { // P4.2
	for _, c := range [][2]string{
		{`datatype D = E`, `DDatatype:D@0(DCons:E@13)`},
		{`datatype M::D<T, U> = C(f: T, g: int) | E() | F`, `DDatatype:M::D@0(DTypeParam:T@14 DTypeParam:U@17 DCons:C@22(DField:f@24(TName:T@27) DField:g@30(TInt@33)) DCons:E@40 DCons:F@46)`},
		{`type S = x: int | a | b witness c`, `DSubset:S@0(DParam:x@9(TInt@12) EBitOr@20(EVar:a@18 EVar:b@22) EVar:c@32)`},
		{`class C { }`, `DClass:C@0`},
		{`class C { var f: T; ghost var g: T; }`, `DClass:C@0(DField:f@14(TName:T@17) DGhostField:g@20(TName:T@33))`},
		{`const M::c: int := a;`, `DConst:M::c@0(TInt@12 EVar:a@19)`},
		{`function f(): int`, `DFunction:f@0(DResult@14(TInt@14))`},
		{`ghost opaque fuel 3 function f<T>(x: T, ghost y: int): seq<int> decreases a, b ensures c reads d requires e ensures g requires h { x }`, `DFunction:f@0(DMark:ghost@0 DMark:opaque@6 DMark:fuel 3@13 DTypeParam:T@31 DParam:x@34(TName:T@37) DGhostParam:y@40(TInt@49) DResult@55(TSeq@55(TInt@59)) CRequires@97(EVar:e@106) CRequires@118(EVar:h@127) CReads@89(EVar:d@95) CEnsures@79(EVar:c@87) CEnsures@108(EVar:g@116) CDecreases@64(EVar:a@74 EVar:b@77) EVar:x@131)`},
		{`lemma method m() `, `DMethod:m@0(DMark:lemma@0)`},
		{`hidden least greatest method M::m<T>(ghost x: T) returns (y: T, z: int) ensures a modifies b requires c decreases d { return; }`, `DMethod:M::m@0(DMark:hidden@0 DMark:least@7 DMark:greatest@13 DTypeParam:T@34 DGhostParam:x@37(TName:T@46) DOut:y@58(TName:T@61) DOut:z@64(TInt@67) CRequires@93(EVar:c@102) CModifies@82(EVar:b@91) CEnsures@72(EVar:a@80) CDecreases@104(EVar:d@114) SBlock@116(SReturn@118))`},
	} {
		reads(t, Declaration, c[0], c[1])
	}
}

func TestPrograms(t *testing.T) { // P4.3
	for _, c := range [][2]string{
		{``, `MProgram@0(MModule@0)`},
		{`import A; import B; export; const c: int := 1;`, `MProgram@0(MModule@0(MImport:A@0 MImport:B@10 MExport@20 DConst:c@28(TInt@37 EInt:1@44)))`},
		{`export a, +b, +C;`, `MProgram@0(MModule@0(MExport@0(MName:a@7 MName:+b@10 MName:+C@14)))`},
		{`module M { }`, `MProgram@0(MModule:M@0)`},
		{`module M refines N { import A; export f; class C { } } module N { }`, `MProgram@0(MModule:M@0(MRefines:N@9 MImport:A@21 MExport@31(MName:f@38) DClass:C@41) MModule:N@55)`},
	} {
		reads(t, Program, c[0], c[1])
	}
}
