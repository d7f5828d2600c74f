package parse

import (
	"strings"
	"testing"

	"entail/api"
	"entail/tree"
)

// failure is a text with the offset of its error.
type failure struct {
	text string
	at   int
	want api.Errno
}

func times(s string, n int) string { return strings.Repeat(s, n) }

func TestExpressionErrors(t *testing.T) { // P4.1
	nines := times("9", api.MaxDigits)
	for _, c := range []failure{
		{"", 0, api.ErrSyntax}, {"x + ;", 4, api.ErrSyntax}, {"x +", 3, api.ErrSyntax}, {"x + ", 4, api.ErrSyntax}, {"a b", 2, api.ErrSyntax}, {")", 0, api.ErrSyntax},
		{"a < b in c", 6, api.ErrSyntax}, {"a in b in c", 7, api.ErrSyntax}, {"a != b < c", 7, api.ErrSyntax}, {"a < b != c", 6, api.ErrSyntax}, {"a < b < c != d", 10, api.ErrSyntax},
		{"a !in b == c", 8, api.ErrSyntax}, {"a == b !in c", 7, api.ErrSyntax}, {"a !b", 2, api.ErrSyntax}, {"a !", 2, api.ErrSyntax}, {"a ! == b", 2, api.ErrSyntax}, {"(!in s)", 2, api.ErrSyntax},
		{"x.1", 2, api.ErrSyntax}, {"x.M::f", 2, api.ErrSyntax}, {"x.C", 3, api.ErrSyntax}, {"x.f?", 3, api.ErrSyntax}, {"x.if", 2, api.ErrSyntax},
		{"f(a,)", 4, api.ErrSyntax}, {"f(a b)", 4, api.ErrSyntax}, {"f(", 2, api.ErrSyntax}, {"x[]", 2, api.ErrSyntax}, {"x[a..]", 5, api.ErrSyntax}, {"x[a := b := c]", 9, api.ErrSyntax},
		{"map[a]", 5, api.ErrSyntax}, {"map{a}", 3, api.ErrSyntax}, {"multiset[a]", 8, api.ErrSyntax}, {"old a", 4, api.ErrSyntax}, {"fresh()", 6, api.ErrSyntax},
		{"(a as 3)", 6, api.ErrSyntax}, {"a as int", 2, api.ErrSyntax}, {"(a as int", 9, api.ErrSyntax}, {"a + if b then c else d", 4, api.ErrSyntax}, {"a ==> if b then c else d", 6, api.ErrSyntax},
		{"if a then b", 11, api.ErrSyntax}, {"var M::x := a; b", 4, api.ErrSyntax}, {"var X := a; b", 4, api.ErrSyntax}, {"var x = a; b", 6, api.ErrSyntax}, {"forall :: a", 7, api.ErrSyntax},
		{"forall x: int {} :: a", 15, api.ErrSyntax}, {"forall x: int | a :: b", 14, api.ErrSyntax}, {"set x: int, y: int | a :: b", 10, api.ErrSyntax}, {"match a { }", 10, api.ErrSyntax},
		{"match a { case b => c case }", 27, api.ErrSyntax}, {"match a { case M::b => c }", 15, api.ErrSyntax}, {"x := a", 2, api.ErrSyntax}, {"a > b >> > c", 9, api.ErrSyntax}, {"call", 0, api.ErrSyntax},
		{"a $ (", 2, api.ErrSyntax}, {"( $", 2, api.ErrSyntax}, {"a " + times("x", 25), 2, api.ErrName}, {"/*", 0, api.ErrSyntax}, {times("(", api.MaxText+1), 0, api.ErrLong},
		{times("!", 20001), 20000, api.ErrMany},
		{"a + 1.50", 4, api.ErrName}, {"a + " + nines + "9", 4, api.ErrName}, {"1." + times("1", 39), 0, api.ErrName}, {"a + b + c + 1.0 + 1.10", 18, api.ErrName},
		{"a + (forall v: int, w: int, x: int, y: int, z: int :: v)", 5, api.ErrShape}, {"forall x: int {a} {b} {c} {d} {e} :: a", 0, api.ErrShape},
		{"[a" + times(",a", 3999) + "]", 0, api.ErrMany}, {"a" + times("+a", 60), 119, api.ErrDeep},
	} {
		fails(t, Expression, c.text, c.at, c.want)
	}
	for _, s := range []string{nines, "1." + times("1", 38), "forall w: int, x: int, y: int, z: int {a} {b} {c} {d} :: a", "[a" + times(",a", 3998) + "]", "a" + times("+a", 59)} {
		if _, at, e := Expression(s); at != 0 || e != api.OK {
			t.Errorf("%.40q: %d, %d", s, at, e)
		}
	}
}

func TestDeep(t *testing.T) { // P4.1, P4.2
	for _, c := range []struct {
		parse                 func(string) (api.Tree, int, api.Errno)
		before, inner, behind string
		levels, at            int // the number of levels that are too many, and the offset of the error
	}{
		{Expression, "(", "a", ")", 60, 60}, {Expression, "!", "a", "", 60, 60}, {Expression, "-", "1", "", 60, 60}, {Expression, "a==>", "a", "", 60, 240},
		{Expression, "if a then b else ", "a", "", 60, 1006}, {Expression, "[", "", "]", 61, 60}, {Expression, "f(b, ", "a", ")", 60, 297},
		{Type, "seq<", "int", ">", 60, 240}, {Type, "map<int, ", "int", ">", 60, 535}, {Pattern, "C(", "x", ")", 60, 120}, {Pattern, "C(", "_", ")", 60, 120}, {Pattern, "C(y, ", "x", ")", 60, 297},
		{Statement, "{", "", "}", 61, 60}, {Statement, "{", "return;", "}", 60, 60},
	} {
		nested := func(n int) string { return times(c.before, n) + c.inner + times(c.behind, n) }
		if _, at, e := c.parse(nested(c.levels - 1)); at != 0 || e != api.OK {
			t.Errorf("%.40q: %d, %d", nested(c.levels-1), at, e)
		}
		fails(t, c.parse, nested(c.levels), c.at, api.ErrDeep)
		fails(t, c.parse, nested(1000), c.at, api.ErrDeep)
	}
	for _, c := range []failure{
		// A token that begins nothing is not the first one of anything.
		{times("(", 60) + ")", 60, api.ErrSyntax}, {times("(", 60), 60, api.ErrSyntax}, {times("!", 60) + "in", 60, api.ErrSyntax},
		{times("!", 59) + "(a)", 60, api.ErrDeep}, {times("(!", 30) + "a", 60, api.ErrDeep}, {times("(", 59) + "a ==> b", 65, api.ErrDeep},
		{times("(", 59) + "(a as int)", 60, api.ErrDeep}, {times("(", 58) + "(a as seq<int>)", 68, api.ErrDeep},
	} {
		fails(t, Expression, c.text, c.at, c.want)
	}
	// A literal has one level more in a tree than in a text.
	fails(t, Pattern, times("C(", 60)+"-7"+times(")", 60), 120, api.ErrDeep)
	fails(t, Pattern, times("C(", 59)+"7"+times(")", 59), 0, api.ErrDeep)
	// The condition of the last branch is inside of all branches.
	elses := times("if a { } else ", 59)
	fails(t, Statement, elses+"if a { }", 829, api.ErrDeep)
	if _, at, e := Statement(elses[14:] + "if a { }"); at != 0 || e != api.OK {
		t.Errorf("59 branches: %d, %d", at, e)
	}
}

func TestLongChains(t *testing.T) { // P4.1
	fails(t, Expression, "a"+times("<a", 1001), 2001, api.ErrMany)
	fails(t, Expression, "a"+times("<a", 1001)+"$", 2003, api.ErrSyntax)
	fails(t, Expression, "a"+times("<a", 1001)+" )", 2001, api.ErrMany)
	fails(t, Expression, "a"+times("<a", 1000)+" )", 2002, api.ErrSyntax)
	fails(t, Expression, "a"+times("<a", 1000)+"<)", 2002, api.ErrSyntax)
	fails(t, Expression, "a"+times("<a", 1000), 119, api.ErrDeep)
	// The operand in the middle is there twice: 2 * 1998 nodes, two ends, two comparisons and an EAnd are too many.
	middle := "[a" + times(",a", 1996) + "]"
	fails(t, Expression, "a<"+middle+"<b", 2+len(middle), api.ErrMany)
	if _, at, e := Expression("a<" + middle); at != 0 || e != api.OK {
		t.Errorf("one comparison: %d, %d", at, e)
	}
}

func TestPatternAndTypeErrors(t *testing.T) { // P4.1
	for _, c := range []failure{
		{"", 0, api.ErrSyntax}, {"M::x", 0, api.ErrSyntax}, {"-", 1, api.ErrSyntax}, {"-x", 1, api.ErrSyntax}, {"1.5", 0, api.ErrSyntax}, {"-true", 1, api.ErrSyntax}, {"C(x,)", 4, api.ErrSyntax},
		{"C(x", 3, api.ErrSyntax}, {"x(y)", 1, api.ErrSyntax}, {"x y", 2, api.ErrSyntax}, {"(x)", 0, api.ErrSyntax}, {"C(" + times("9", 121) + ")", 2, api.ErrName}, {"if", 0, api.ErrSyntax},
	} {
		fails(t, Pattern, c.text, c.at, c.want)
	}
	for _, c := range []failure{
		{"", 0, api.ErrSyntax}, {"seq", 3, api.ErrSyntax}, {"seq<int", 7, api.ErrSyntax}, {"seq<int, int>", 7, api.ErrSyntax}, {"map<int>", 7, api.ErrSyntax}, {"C<>", 2, api.ErrSyntax},
		{"int<int>", 3, api.ErrSyntax}, {"bv8<int>", 3, api.ErrSyntax}, {"bv65", 0, api.ErrSyntax}, {"x", 0, api.ErrSyntax}, {"M::x", 0, api.ErrSyntax}, {"bv", 0, api.ErrSyntax},
		{"seq<int>>", 8, api.ErrSyntax}, {"C<seq<int>>>", 11, api.ErrSyntax}, {"seq<int >> ", 9, api.ErrSyntax}, {"seq<int>=", 7, api.ErrSyntax}, {"seq<<int>", 3, api.ErrSyntax},
	} {
		fails(t, Type, c.text, c.at, c.want)
	}
}

func TestStatementErrors(t *testing.T) { // P4.2
	for _, c := range []failure{
		{"", 0, api.ErrSyntax}, {";", 0, api.ErrSyntax}, {"x;", 1, api.ErrSyntax}, {"x", 1, api.ErrSyntax}, {"x := 1", 6, api.ErrSyntax}, {"x := ;", 5, api.ErrSyntax}, {"x := 1; x := 2;", 8, api.ErrSyntax},
		{"f(x) := 1;", 5, api.ErrSyntax}, {"(x) := 1;", 4, api.ErrSyntax}, {"M::x := 1;", 5, api.ErrSyntax}, {"C := 1;", 2, api.ErrSyntax}, {"1 := 2;", 2, api.ErrSyntax}, {"x + 1 := 2;", 2, api.ErrSyntax},
		{"-x.f := 1;", 0, api.ErrSyntax}, {"x[1..2] := 3;", 8, api.ErrSyntax}, {"x[1 := 2] := 3;", 10, api.ErrSyntax}, {"x.C? := 1;", 5, api.ErrSyntax}, {"{1}[0] := 2;", 2, api.ErrSyntax},
		{"x.f := call m();", 7, api.ErrSyntax}, {"x.f := new C();", 7, api.ErrSyntax}, {"x.f :| a;", 4, api.ErrSyntax}, {"x, y := 1;", 8, api.ErrSyntax}, {"x, y.f := call m();", 4, api.ErrSyntax},
		{"x, y :| a;", 5, api.ErrSyntax}, {"x, M::y := call m();", 3, api.ErrSyntax}, {"x.f, y := call m();", 3, api.ErrSyntax}, {"call M::C();", 5, api.ErrSyntax}, {"call m;", 6, api.ErrSyntax},
		{"x := new int();", 9, api.ErrSyntax}, {"x := new C;", 10, api.ErrSyntax}, {"x := new array(1, 2);", 14, api.ErrSyntax}, {"x := new array<int>(1);", 21, api.ErrSyntax}, {"x := new c();", 9, api.ErrSyntax},
		{"var x := 1;", 6, api.ErrSyntax}, {"var X: int;", 4, api.ErrSyntax}, {"ghost x := 1;", 6, api.ErrSyntax}, {"if a", 4, api.ErrSyntax}, {"if a then", 5, api.ErrSyntax}, {"if { }", 5, api.ErrSyntax},
		{"if {a} == b { }", 4, api.ErrSyntax}, {"if { case a => b }", 15, api.ErrSyntax}, {"if a { } else if { case b => { } }", 17, api.ErrSyntax}, {"if a { } else b", 14, api.ErrSyntax},
		{"while a invariant { }", 21, api.ErrSyntax}, {"while a requires b { }", 8, api.ErrSyntax}, {"while a decreases b decreases c { }", 20, api.ErrTwice}, {"while a decreases b, c invariant d decreases )", 35, api.ErrTwice},
		{"while a decreases ) decreases c { }", 18, api.ErrSyntax}, {"match a { }", 10, api.ErrSyntax}, {"match a { case b => c }", 20, api.ErrSyntax}, {"assert l: ;", 10, api.ErrSyntax}, {"assert M::l: a;", 11, api.ErrSyntax},
		{"assert a by b;", 12, api.ErrSyntax}, {"assert a: b: c;", 11, api.ErrSyntax}, {"return 1;", 7, api.ErrSyntax}, {"reveal C;", 7, api.ErrSyntax}, {"print;", 5, api.ErrSyntax}, {"calc { }", 7, api.ErrSyntax},
		{"calc { a }", 9, api.ErrSyntax}, {"calc { a; b; }", 10, api.ErrSyntax}, {"calc { a; > b; }", 10, api.ErrSyntax}, {"calc { a; == }", 13, api.ErrSyntax}, {"calc { a; == { } }", 17, api.ErrSyntax}, {"calc { a; == {b}; }", 15, api.ErrSyntax},
		{"forall x: int ensures a { }", 14, api.ErrSyntax}, {"forall x: int | a { }", 18, api.ErrSyntax}, {"forall x: int | a ensures b;", 27, api.ErrSyntax}, {"{ return; ", 10, api.ErrSyntax}, {"{ } }", 4, api.ErrSyntax},
		{"const c: int := 1;", 0, api.ErrSyntax}, {"{ x := 01; }", 7, api.ErrSyntax}, {"{ x := 1.00; }", 7, api.ErrName},
	} {
		fails(t, Statement, c.text, c.at, c.want)
	}
}

func TestDeclarationErrors(t *testing.T) { // P4.2
	for _, c := range []failure{
		{"", 0, api.ErrSyntax}, {"datatype d = C", 9, api.ErrSyntax}, {"datatype D", 10, api.ErrSyntax}, {"datatype D = ", 13, api.ErrSyntax}, {"datatype D = C | ", 17, api.ErrSyntax}, {"datatype D<> = C", 11, api.ErrSyntax},
		{"datatype D<M::T> = C", 11, api.ErrSyntax}, {"datatype D = C(f)", 16, api.ErrSyntax}, {"datatype D = C(f: int,)", 22, api.ErrSyntax}, {"type S = x | a witness b", 11, api.ErrSyntax}, {"type S = x: int | a", 19, api.ErrSyntax},
		{"type S<T> = x: int | a witness b", 6, api.ErrSyntax}, {"class C { f: int; }", 10, api.ErrSyntax}, {"class C { ghost f: int; }", 16, api.ErrSyntax}, {"class C { var f: int }", 21, api.ErrSyntax}, {"const c := 1;", 8, api.ErrSyntax},
		{"const c: int := 1", 17, api.ErrSyntax}, {"const C: int := 1;", 6, api.ErrSyntax}, {"function f: int", 10, api.ErrSyntax}, {"function f()", 12, api.ErrSyntax}, {"function F(): int", 9, api.ErrSyntax}, {"function f(ghost): int", 16, api.ErrSyntax},
		{"function f(): int { }", 20, api.ErrSyntax}, {"function f(): int { 1; }", 21, api.ErrSyntax}, {"function f<seq<int>>(): int", 11, api.ErrSyntax}, {"function f<A, B>>(): int", 15, api.ErrSyntax}, {"fuel function f(): int", 5, api.ErrSyntax},
		{"fuel 12 function f(): int", 5, api.ErrSyntax}, {"ghost const c: int := 1;", 6, api.ErrSyntax}, {"lemma m()", 6, api.ErrSyntax}, {"method m() returns ()", 20, api.ErrSyntax}, {"method m(): int", 10, api.ErrSyntax},
		{"method m() returns (ghost x: int)", 20, api.ErrSyntax}, {"method m() invariant a", 11, api.ErrSyntax}, {"method m() { } { }", 15, api.ErrSyntax}, {"method m() decreases a decreases b", 23, api.ErrTwice},
		{"function f(): int decreases a ensures b decreases", 40, api.ErrTwice}, {"method m() reads a { }", 0, api.ErrForm}, {"ghost function f(): int modifies a", 0, api.ErrForm}, {"return;", 0, api.ErrSyntax}, {"module M { }", 0, api.ErrSyntax},
		{"const c: int := 1; const d: int := 2;", 19, api.ErrSyntax}, {"import A;", 0, api.ErrSyntax},
	} {
		fails(t, Declaration, c.text, c.at, c.want)
	}
}

func TestProgramErrors(t *testing.T) { // P4.3
	for _, c := range []failure{
		{"module", 6, api.ErrSyntax}, {"module m { }", 7, api.ErrSyntax}, {"module M::N { }", 7, api.ErrSyntax}, {"module M refines { }", 17, api.ErrSyntax}, {"module M { ", 11, api.ErrSyntax}, {"module M { } }", 13, api.ErrSyntax},
		{"module M { } const c: int := 1;", 13, api.ErrSyntax}, {"const c: int := 1; module M { }", 19, api.ErrSyntax}, {"import a;", 7, api.ErrSyntax}, {"import A", 8, api.ErrSyntax}, {"import M::A;", 7, api.ErrSyntax},
		{"export M::a;", 7, api.ErrSyntax}, {"export +;", 8, api.ErrSyntax}, {"export a,;", 9, api.ErrSyntax}, {"export a; import B;", 10, api.ErrSyntax}, {"export a; export b;", 10, api.ErrSyntax}, {"const c: int := 1; import A;", 19, api.ErrSyntax},
		{"module M { module N { } }", 11, api.ErrSyntax}, {"x := 1;", 0, api.ErrSyntax}, {"}", 0, api.ErrSyntax}, {"class C { } method m() reads a", 12, api.ErrForm}, {"const c: real := 1.20;", 17, api.ErrName},
	} {
		fails(t, Program, c.text, c.at, c.want)
		if s, at, e := Format(c.text); s != "" || at != c.at || e != c.want {
			t.Errorf("Format(%q): %q, %d, %d, want %d, %d", c.text, s, at, e, c.at, c.want)
		}
	}
}

func TestFormat(t *testing.T) { // P4.3
	for s, want := range map[string]string{
		"": "", "const c:int:=1;": "const c: int := 1;",
		"module A{import B;export +c;const c:int:=1;}module B{}":                        "module A {\n  import B;\n  export +c;\n  const c: int := 1;\n}\nmodule B {\n}",
		"function f(x:int):int ensures 0<=x<9 requires x>0{x}":                          "function f(x: int): int\n  requires 0 < x\n  ensures 0 <= x && x < 9\n{\n  x\n}",
		"method m() { if ({1}==s) { } ({x}[0]) := 1; calc { {x}; == { } ({y}) - z; } }": "method m()\n{\n  if ({1} == s) {\n  }\n  ({x}[0]) := 1;\n  calc {\n    ({x});\n    == {\n    }\n    ({y} - z);\n  }\n}",
	} {
		if got, at, e := Format(s); got != want || at != 0 || e != api.OK {
			t.Errorf("Format(%q): %q, %d, %d", s, got, at, e)
		}
	}
	wide := "const c: seq<int> := [" + times("nnnnnnnnnnnnnnn,", 3950) + "n];"
	if s, at, e := Format(wide); s != "" || at != 0 || e != api.ErrLong {
		t.Errorf("Format of a wide text: %d bytes, %d, %d", len(s), at, e)
	}
	if _, _, e := Program(wide); e != api.OK {
		t.Errorf("Program of a wide text: %d", e)
	}
}

func TestLevel(t *testing.T) { // P4.1
	levels := map[int]int{api.EIff: 0, api.EImp: 1, api.EOr: 2, api.EAnd: 3, api.EEq: 4, api.ENe: 4, api.ELt: 4, api.ELe: 4, api.EIn: 4, api.EBitAnd: 5, api.EBitOr: 5, api.EBitXor: 5,
		api.EShl: 6, api.EShr: 6, api.EAdd: 7, api.ESub: 7, api.EMul: 8, api.EDiv: 8, api.EMod: 8, api.ENot: 9, api.ENeg: 9, api.ECard: 9, api.EField: 10, api.EIs: 10, api.EIndex: 10,
		api.ESlice: 10, api.EUpdate: 10, api.EIf: -1, api.ELet: -1, api.EForall: -1, api.EExists: -1, api.ESetOf: -1, api.EMatch: -1}
	for op := range api.Ops + 20 {
		op -= 10
		class, e := tree.Class(op)
		want, found := levels[op]
		if !found {
			want = 11
		}
		wantError := api.OK
		if e != api.OK || class != tree.Expression {
			want, wantError = 0, api.ErrKind
		}
		if got, e := Level(op); got != want || e != wantError {
			t.Errorf("Level(%d): %d, %d, want %d, %d", op, got, e, want, wantError)
		}
	}
}

func TestFormatTwice(t *testing.T) { // P4.4
	w := newWriter(documentRules(), 3)
	for i := range 500 {
		s, _, e := Format(strings.Join(w.write("Program", 8+i%13), " "))
		if e != api.OK {
			continue
		}
		again, at, e := Format(s)
		if e == api.ErrDeep {
			continue
		}
		if again != s || at != 0 || e != api.OK {
			t.Fatalf("Format of %.400q: %.400q, %d, %d", s, again, at, e)
		}
	}
}
