package infer

import (
	"slices"
	"strings"
	"testing"

	"entail/api"
	"entail/parse"
	"entail/tree"
	"entail/types"
)

// nth returns the node that is the n-th one (from 0 on) with an Op and a Text.
func nth(p api.Tree, op int, text string, n int) int {
	for i, node := range p {
		if node.Op == op && node.Text == text {
			if n == 0 {
				return i
			}
			n--
		}
	}
	return -1
}

const example = "datatype List<T> = Nil | Cons(head: T, tail: List<T>) type Nat = x: int | 0 <= x witness 0 class Cell { var v: int; ghost var old_v: Nat; } datatype Loop = More(rest: Loop) " +
	"function len<T>(l: List<T>): Nat { match l { case Nil => 0 case Cons(x, r) => 1 + len(r) } } " +
	"method m(c: Cell) returns (n: int) modifies c { c.v := len(Cons(1, Nil)); n := c.v; }"

func TestExample(t *testing.T) { // P8.1, P8.3
	p := flat(t, example)
	l, at, e := Types(p)
	if len(l) != len(p) || at != 0 || e != api.OK {
		t.Fatalf("Types: %d types, %d at %d", len(l), e, at)
	}
	for _, c := range []struct {
		op   int
		text string
		n    int
		want string
	}{{api.ECall, "len", 1, "int"}, {api.ECons, "Nil", 0, "List<int>"}, {api.ECons, "Cons", 0, "List<int>"}, {api.PCons, "Nil", 0, "List<T>"}, {api.PVar, "x", 0, "T"}, {api.PVar, "r", 0, "List<T>"}, {api.ECall, "len", 0, "int"}, {api.EVar, "l", 0, "List<T>"},
		{api.EVar, "c", 0, "Cell"}, {api.EField, "v", 0, "int"}, {api.EMatch, "", 0, "int"}, {api.ECase, "", 0, ""}, {api.DParam, "l", 0, ""}, {api.TName, "List", 0, ""}, {api.SAssign, "", 0, ""}, {api.MProgram, "", 0, ""}} {
		node := nth(p, c.op, c.text, c.n)
		if node < 0 || l[node] != c.want {
			t.Errorf("the type of %s (%d): %q, want %q", c.text, node, l[node], c.want)
		}
	}
	in, at, e := Instances(p)
	want := []Instance{{nth(p, api.PCons, "Nil", 0), []string{"T"}}, {nth(p, api.PCons, "Cons", 0), []string{"T"}}, {nth(p, api.ECall, "len", 0), []string{"T"}},
		{nth(p, api.ECons, "Nil", 0), []string{"int"}}, {nth(p, api.ECons, "Cons", 0), []string{"int"}}, {nth(p, api.ECall, "len", 1), []string{"int"}}}
	if !slices.EqualFunc(in, want, func(a, b Instance) bool { return a.Node == b.Node && slices.Equal(a.Args, b.Args) }) || at != 0 || e != api.OK {
		t.Errorf("Instances: %v, %d at %d, want %v", in, e, at, want)
	}
	flows, at, e := Flows(p)
	if want := []Flow{{nth(p, api.EInt, "0", 1), "Nat"}, {nth(p, api.EMatch, "", 0), "Nat"}}; !slices.Equal(flows, want) || at != 0 || e != api.OK {
		t.Errorf("Flows: %v, %d at %d, want %v", flows, e, at, want)
	}
	for text, want := range map[string]problem{
		"method m() { var s: seq<int> := [] + []; }": {}, "method m() { assert Nil == Nil; }": {e: api.ErrOpen, at: -1},
	} {
		q := flat(t, example[:strings.Index(example, "method")]+text)
		if want.at < 0 {
			want.at = nth(q, api.ECons, "Nil", 0)
		}
		if _, at, e := Types(q); at != want.at || e != want.e {
			t.Errorf("%s: %d at %d, want %d at %d", text, e, at, want.e, want.at)
		}
	}
}

// place is a program with the place of its error: the n-th node with an Op and a Text.
type place struct {
	text string
	op   int
	name string
	n    int
	e    api.Errno
}

const some = "datatype List<T> = Nil | Cons(head: T, tail: List<T>) type Nat = x: int | 0 <= x witness 0 class Cell { var v: int; ghost var w: Nat; } function len<T>(l: List<T>): Nat function f(n: int): int method p(a: int, b: Nat) returns (c: Nat, d: bool) method q<T>(a: T) returns (b: List<T>) method r() "

// inMethod is a program with a method that has a body.
func inMethod(body string) string {
	return some + "method m(i: int, b: bool, s: seq<int>, l: List<int>, c: Cell, a: array<int>) returns (o: int) { var x: int; var y: bool; var u: Cell; var v: array<Nat>; var w: Nat; var z: List<bool>; " + body + " }"
}

var wrongStatements = []place{
	{"var k: int := b;", api.EVar, "b", 0, api.ErrType}, {"ghost var k: bool := 1 + 1;", api.EAdd, "", 0, api.ErrType}, {"var k: int := k;", api.EVar, "k", 0, api.ErrUnknown}, {"{ var k: int; } k := 1;", api.EVar, "k", 0, api.ErrUnknown},
	{"x := b;", api.EVar, "b", 0, api.ErrType}, {"x := 1.0 + r;", api.EVar, "r", 0, api.ErrUnknown}, {"c.v := b;", api.EVar, "b", 0, api.ErrType}, {"c.n := b;", api.EField, "n", 0, api.ErrUnknown}, {"a[b] := 1;", api.EIndex, "", 0, api.ErrType}, {"a[0] := b;", api.EVar, "b", 0, api.ErrType}, {"k := 1;", api.EVar, "k", 0, api.ErrUnknown},
	{"k := *;", api.EVar, "k", 0, api.ErrUnknown}, {"c.n := *;", api.EField, "n", 0, api.ErrUnknown}, {"l.v := *;", api.EField, "v", 0, api.ErrUnknown},
	{"x :| x + 1;", api.EAdd, "", 0, api.ErrType}, {"k :| b;", api.SChoose, "k", 0, api.ErrUnknown}, {"k :| b + k;", api.EVar, "k", 0, api.ErrUnknown}, {"k :| 1;", api.SChoose, "k", 0, api.ErrUnknown},
	{"x, y := call p(1, 2.0);", api.EReal, "2.0", 0, api.ErrType}, {"x, y := call p(b, 2.0);", api.EVar, "b", 0, api.ErrType}, {"y, y := call p(1, 2);", api.EVar, "y", 0, api.ErrType}, {"x, x := call p(1, 2);", api.EVar, "x", 1, api.ErrType}, {"y, y := call p(1, b);", api.EVar, "b", 0, api.ErrType},
	{"x, y := call p(1);", api.SCall, "p", 0, api.ErrArgs}, {"x := call p(1, 2);", api.SCall, "p", 0, api.ErrArgs}, {"call p(1, 2);", api.SCall, "p", 0, api.ErrArgs}, {"call nope();", api.SCall, "nope", 0, api.ErrUnknown}, {"call f(1);", api.SCall, "f", 0, api.ErrUnknown}, {"k := call nope(1);", api.EVar, "k", 0, api.ErrUnknown}, {"call nope(k);", api.EVar, "k", 0, api.ErrUnknown}, {"x := call q(1);", api.EVar, "x", 0, api.ErrType}, {"z := call q(1);", api.EVar, "z", 0, api.ErrType}, {"z := call q([]);", api.EVar, "z", 0, api.ErrType},
	{"call r(1);", api.SCall, "r", 0, api.ErrArgs}, {"x := call r();", api.SCall, "r", 0, api.ErrArgs},
	{"k := new Cell(1, 2);", api.SNew, "k", 0, api.ErrUnknown}, {"u := new Cell(1);", api.SNew, "u", 0, api.ErrArgs}, {"u := new List<int>(1);", api.SNew, "u", 0, api.ErrKind}, {"u := new Nat(1);", api.SNew, "u", 0, api.ErrKind}, {"k := new List<int>(k);", api.EVar, "k", 0, api.ErrUnknown}, {"k := new Nat(1);", api.SNew, "k", 0, api.ErrUnknown}, {"u := new Nat(1 + b);", api.EAdd, "", 0, api.ErrType},
	{"u := new Cell(1, b);", api.EVar, "b", 0, api.ErrType}, {"x := new Cell(b, 2);", api.EVar, "b", 0, api.ErrType}, {"x := new Cell(1, 2);", api.SNew, "x", 0, api.ErrType}, {"x := new Nope(1, k);", api.TName, "Nope", 0, api.ErrUnknown},
	{"k := new array<int>(1, 2);", api.SNewArray, "k", 0, api.ErrUnknown}, {"k := new array<int>(b, 2);", api.SNewArray, "k", 0, api.ErrUnknown}, {"k := new array<int>(b, j);", api.EVar, "j", 0, api.ErrUnknown}, {"v := new array<int>(b, 1.0);", api.EVar, "b", 0, api.ErrType}, {"v := new array<int>(1, 1.0);", api.EReal, "1.0", 0, api.ErrType}, {"v := new array<bool>(1, b);", api.SNewArray, "v", 0, api.ErrType}, {"x := new array<int>(1, 1);", api.SNewArray, "x", 0, api.ErrType}, {"v := new array<bool>(1, 2);", api.EInt, "2", 0, api.ErrType},
	{"if i { x := k; }", api.EVar, "i", 0, api.ErrType}, {"if b { x := k; } else { x := j; }", api.EVar, "k", 0, api.ErrUnknown}, {"if b { } else { x := j; }", api.EVar, "j", 0, api.ErrUnknown}, {"if b { } else if i { }", api.EVar, "i", 0, api.ErrType},
	{"if { case b => { } case i => { } }", api.EVar, "i", 0, api.ErrType}, {"if { case b => { x := k; } case i => { } }", api.EVar, "k", 0, api.ErrUnknown},
	{"while i { }", api.EVar, "i", 0, api.ErrType}, {"while b invariant i { }", api.EVar, "i", 0, api.ErrType}, {"while b invariant b decreases [] { }", api.ESeq, "", 0, api.ErrOpen}, {"while b modifies i { }", api.EVar, "i", 0, api.ErrType}, {"while b modifies {i} { }", api.ESet, "", 0, api.ErrType}, {"while b modifies {} { }", api.ESet, "", 0, api.ErrOpen}, {"while b modifies [c] { }", api.ESeq, "", 0, api.ErrType}, {"while b modifies [][0] { }", api.EIndex, "", 0, api.ErrOpen}, {"while b { x := k; }", api.EVar, "k", 0, api.ErrUnknown},
	{"match i + 1.0 { case x => { } }", api.EAdd, "", 0, api.ErrType}, {"match s { case k => { } }", api.EVar, "s", 0, api.ErrType}, {"match c { case k => { } }", api.EVar, "c", 0, api.ErrType}, {"match [][0] { case k => { } }", api.EIndex, "", 0, api.ErrOpen}, {"match Nil { case Cons(1, _) => { } }", api.ECons, "Nil", 0, api.ErrOpen},
	{"match l { case Cons(k, true) => { } }", api.PLit, "", 0, api.ErrType}, {"match l { case Cons(k) => { } }", api.PCons, "Cons", 0, api.ErrArgs}, {"match l { case Some(k) => { } }", api.PCons, "Some", 0, api.ErrUnknown}, {"match i { case Nil => { } }", api.PCons, "Nil", 0, api.ErrType}, {"match i { case 1 => { } case true => { } }", api.PLit, "", 1, api.ErrType}, {"match l { case Cons(k, _) => { y := k; } }", api.EVar, "k", 0, api.ErrType}, {"match l { case Nil => { x := k; } case Nope => { } }", api.EVar, "k", 0, api.ErrUnknown},
	{"assert i;", api.EVar, "i", 0, api.ErrType}, {"assert k: b by { x := k; }", api.EVar, "k", 0, api.ErrUnknown}, {"assert i by { x := k; }", api.EVar, "i", 0, api.ErrType}, {"assume i;", api.EVar, "i", 0, api.ErrType}, {"print [];", api.ESeq, "", 0, api.ErrOpen}, {"print k;", api.EVar, "k", 0, api.ErrUnknown},
	{"calc { i; == 1.0; }", api.EReal, "1.0", 0, api.ErrType}, {"calc { b; ==> i; }", api.EVar, "i", 0, api.ErrType}, {"calc { i; ==> i; }", api.EVar, "i", 0, api.ErrType}, {"calc { b; < b; }", api.EVar, "b", 0, api.ErrType}, {"calc { 1.0; <= 1.0; }", api.EReal, "1.0", 0, api.ErrType}, {"calc { i; == b; ==> b; }", api.EVar, "i", 0, api.ErrType}, {"calc { b; == b; ==> 1; < 2; }", api.EVar, "b", 0, api.ErrType}, {"calc { []; == []; }", api.ESeq, "", 0, api.ErrOpen},
	{"calc { i; == { x := k; } 1.0; }", api.EReal, "1.0", 0, api.ErrType}, {"calc { i; == { x := k; } j; }", api.EVar, "j", 0, api.ErrUnknown}, {"calc { i; == { x := k; } 1; }", api.EVar, "k", 0, api.ErrUnknown}, {"calc { i; == { x := 1; } 1; == { x := k; } 2; }", api.EVar, "k", 0, api.ErrUnknown},
	{"forall k: int | k ensures k { }", api.EVar, "k", 0, api.ErrType}, {"forall k: int | b ensures k { }", api.EVar, "k", 0, api.ErrType}, {"forall k: int | b ensures b { x := b; }", api.EVar, "b", 2, api.ErrType}, {"forall k: Nope | i ensures b { }", api.TName, "Nope", 0, api.ErrUnknown},
	// The declared types come first, the statements in their order.
	{"x := b; var k: Nope;", api.TName, "Nope", 0, api.ErrUnknown}, {"x := b; y := 1;", api.EVar, "b", 0, api.ErrType},
}

func TestWrongStatements(t *testing.T) { // P8.1
	for _, c := range wrongStatements {
		p := flat(t, inMethod(c.text))
		body := nth(p, api.DMethod, "m", 0)
		from := body
		for from > 0 && p[from].Op != api.SVar {
			from--
		}
		first := slices.IndexFunc(p, func(n api.Node) bool { return n.Op == api.SVar && n.Text == "z" }) + 1
		node := first + nth(p[first:], c.op, c.name, c.n)
		checkWrong(t, p, c.text, node, c.e)
	}
}

// checkWrong checks that a program has an error at a node.
func checkWrong(t *testing.T, p api.Tree, text string, node int, want api.Errno) {
	t.Helper()
	if l, at, e := Types(p); len(l) > 0 || at != node || e != want {
		t.Errorf("Types of %.200s: %d at %d, want %d at %d", text, e, at, want, node)
	}
	if l, at, e := Instances(p); len(l) > 0 || at != node || e != want {
		t.Errorf("Instances of %.200s: %d at %d, want %d at %d", text, e, at, want, node)
	}
	if l, at, e := Flows(p); len(l) > 0 || at != node || e != want {
		t.Errorf("Flows of %.200s: %d at %d, want %d at %d", text, e, at, want, node)
	}
	if l, e := Context(p, -1); len(l) > 0 || e != want {
		t.Errorf("Context of %.200s: %d, want %d", text, e, want)
	}
}

var wrongDeclarations = []place{
	{"const c: int := true;", api.EBool, "true", 0, api.ErrType}, {"const c: int := d;", api.EVar, "d", 0, api.ErrUnknown}, {"const c: Nope := d;", api.TName, "Nope", 0, api.ErrUnknown}, {"const c: seq<Nope> := d;", api.TSeq, "", 0, api.ErrUnknown}, {"const c: seq<int> := [];  const d: int := #[];", api.ESeq, "", 1, api.ErrOpen},
	{"type S = x: int | x witness 0", api.EVar, "x", 0, api.ErrType}, {"type S = x: int | true witness true", api.EBool, "true", 1, api.ErrType}, {"type S = x: int | true witness x", api.EVar, "x", 0, api.ErrUnknown}, {"type S = x: S | y witness 0", api.TName, "S", 0, api.ErrCycle}, {"type S = x: seq<R> | true witness [] type R = x: set<S> | true witness {}", api.TSeq, "", 0, api.ErrCycle},
	{"datatype D = A(x: Nope)", api.TName, "Nope", 0, api.ErrUnknown}, {"datatype D<T> = A(x: D)", api.TName, "D", 0, api.ErrArgs}, {"class C { var x: T; }", api.TName, "T", 0, api.ErrUnknown}, {"class C { ghost var x: C<int>; }", api.TName, "C", 0, api.ErrArgs},
	{"datatype D<T, T> = A(x: int)", api.TInt, "", 0, api.ErrTwice}, {"function f<T, T>(): int", api.TInt, "", 0, api.ErrTwice},
	{"function f(): int { true }", api.EBool, "true", 0, api.ErrType}, {"function f(x: int): int requires x { y }", api.EVar, "x", 0, api.ErrType}, {"function f(x: int): int reads x { y }", api.EVar, "x", 0, api.ErrType}, {"function f(x: int): int ensures x { y }", api.EVar, "x", 0, api.ErrType}, {"function f(x: int): int decreases x, [] { y }", api.ESeq, "", 0, api.ErrOpen}, {"function f(x: int): int decreases x, x { y }", api.EVar, "y", 0, api.ErrUnknown},
	{"function f(x: int): Nope requires y { z }", api.TName, "Nope", 0, api.ErrUnknown}, {"function f(x: int): int { (x as Nope) + y }", api.TName, "Nope", 0, api.ErrUnknown}, {"function f<T>(x: T): int { x }", api.EVar, "x", 0, api.ErrType}, {"function f<T, U>(x: T): U { x }", api.EVar, "x", 0, api.ErrType}, {"function f<T>(x: T): T { 1 }", api.EInt, "1", 0, api.ErrType},
	// Nothing is known of what a type parameter stands for.
	{"function f<T>(x: T): T { x + x }", api.EAdd, "", 0, api.ErrType}, {"function f<T>(x: T): int { #x }", api.ECard, "", 0, api.ErrType}, {"function f<T>(x: T): int { x.v }", api.EField, "v", 0, api.ErrType}, {"function f<T>(x: T): int { (x as int) }", api.EAs, "", 0, api.ErrType}, {"function f<T>(x: int): T { (x as T) }", api.EAs, "", 0, api.ErrType}, {"method m<T>(x: T) { match x { case y => { } } }", api.EVar, "x", 0, api.ErrType}, {"method m<T>(x: T) modifies x", api.EVar, "x", 0, api.ErrType},
	{"method m() returns (x: int) requires x == 1", api.EVar, "x", 0, api.ErrUnknown}, {"method m() returns (x: int) decreases x", api.EVar, "x", 0, api.ErrUnknown}, {"method m(x: int) returns (y: int) ensures x", api.EVar, "x", 0, api.ErrType}, {"method m(x: int) modifies x ensures y", api.EVar, "x", 0, api.ErrType},
	{"method m(x: T)", api.TName, "T", 0, api.ErrUnknown}, {"method m<T>(x: T) { var y: U; }", api.TName, "U", 0, api.ErrUnknown}, {"function f<T>(x: U<T>): int", api.TName, "U", 0, api.ErrUnknown},
	// Declarations come in the order of their nodes: types, then units.
	{"const c: int := d; const e: Nope := 1;", api.EVar, "d", 0, api.ErrUnknown}, {"const c: int := true; const d: int := e;", api.EBool, "true", 0, api.ErrType}, {"function f(x: int): bool { g(x) } function g(x: bool): Nope", api.ECall, "g", 0, api.ErrType},
	// A type that has no base is used before it is found out.
	{"function f(): int { g([]) } function g(x: S): int type S = x: seq<S> | true witness []", api.ECall, "g", 0, api.ErrCycle}, {"function f(c: C): int { c.l.A? } class C { var l: D; } datatype D<T> = A(x: T)", api.EIs, "A", 0, api.ErrType}, {"function f(c: C): int { c.l.x } class C { var l: D; } datatype D<T> = A(x: T)", api.EField, "x", 0, api.ErrArgs},
}

func TestWrongDeclarations(t *testing.T) { // P8.1
	for _, c := range wrongDeclarations {
		p := flat(t, c.text)
		checkWrong(t, p, c.text, nth(p, c.op, c.name, c.n), c.e)
	}
}

func TestUnclearNames(t *testing.T) { // P8.1
	for _, s := range []string{
		"const c: int := 1; const c: Nope := 2;", "datatype D = D", "datatype D = A | A", "class C { } datatype D = C", "function f(): int method f()", "function f<D>(): int datatype D = A", "datatype D<A> = A", "datatype D<D> = A", "method m<C>() class C { }", "function f<T>(): int type T = x: int | true witness 0",
		"function f(f: int): int", "function f(g: int): int function g(): int", "function f(ghost g: int): int function g(): int", "method m() returns (g: int) function g(): int", "method m() { var g: int; } const g: int := 1;", "method m() { ghost var g: int; } const g: int := 1;",
		"function f(): bool { forall f: int :: true } ", "function f(): int { var f := 1; f }", "function f(x: int): int { match x { case f => 1 } }", "type S = c: int | true witness 0 const c: int := 1;", "method m() { forall c: int | true ensures true { } } const c: int := 1;", "method m() { match 1 { case c => { } } } const c: int := 1;",
		"class C { var x: int; var x: int; }", "class C { var x: int; ghost var x: bool; }", "datatype D = A(x: int, x: int)", "datatype D = A(x: int) | B(x: bool)", "datatype D<T> = A(x: T) | B(y: int, x: seq<T>)", "type S = x: int | true witness 0 datatype D = A(x: int) | B(x: S)",
	} {
		checkWrong(t, flat(t, s), s, 0, api.ErrTwice)
		if _, at, e := Expression(flat(t, s), expr(t, "y"), nil); at != 0 || e != api.ErrTwice {
			t.Errorf("Expression with %s: %d at %d", s, e, at)
		}
	}
	for _, s := range []string{
		"method m(m: int) { var n: int; } method n()", "class C { var c: int; } const c: int := 1;", "datatype D = A(x: int) | B(x: int) class C { var x: int; }", "function f(x: int, x: int): int", "datatype D<T> = A(x: T) datatype E<T> = B(x: seq<T>)", "datatype D = A(f: int) function f(): int", "method m() { x := call m(); } const x: int := 1;",
	} {
		if _, _, e := Types(flat(t, s)); e != api.OK && !strings.Contains(s, "call") || strings.Contains(s, "call") && e != api.ErrArgs {
			t.Errorf("Types of %s: %d", s, e)
		}
	}
}

func TestNoPrograms(t *testing.T) { // P8.1
	for _, c := range []struct {
		p    api.Tree
		want api.Errno
	}{{nil, api.ErrEmpty}, {expr(t, "1"), api.ErrKind}, {flat(t, "module M { }"), api.ErrKind}, {flat(t, "import A; const c: int := true;"), api.ErrKind}, {flat(t, "export;"), api.ErrKind}, {flat(t, "module A { } module B { }"), api.ErrKind}, {api.Tree{{Op: api.EVar, Text: "x"}, {Op: api.ENot}}, api.ErrShape}} {
		checkWrong(t, c.p, "no program", 0, c.want)
	}
	p := flat(t, "const c: int := 1;")
	for _, node := range []int{-1, len(p), 1 << 40, -1 << 60} {
		if l, e := Context(p, node); len(l) > 0 || e != api.ErrUnknown {
			t.Errorf("Context at %d: %v, %d", node, l, e)
		}
	}
}

func TestRightStatements(t *testing.T) { // P8.1
	for _, s := range []string{
		"var k: seq<int> := []; ghost var g: List<bool> := Nil; x := i; c.v := 1; a[0] := x; x := *; c.v := *; a[i] := *; x :| x < i; x, y := call p(1, 2); z := call q(b); call r();",
		"u := new Cell(1, 2); v := new array<Nat>(3, 4); a[0] := v[0]; if b { } else if y { x := 1; } else { } if { case b => { } case y => { x := 2; } }",
		"while b invariant y invariant i < x decreases i, b, [1] modifies c modifies {c} modifies a modifies {a, v} { var k: int := i; x := k; } while b { } return;",
		"match l { case Nil => { } case Cons(h, Cons(g, _)) => { x := h + g; } case k => { print k; } } match i { case 1 => { } case -1 => { } case _ => { } } match b { case true => { } case k => { y := k; } }",
		"assert b; assert k: b by { x := 1; } assume b; print Cons(1, Nil); reveal nope; calc { b; ==> { x := 1; } y; == b; } calc { i; <= i + 1; < 5; == 5; } calc { []; == { } s; } calc { l; }",
		"forall k: int, j: List<int> | k in s && #s == k ensures len(j) < k { x := k; }",
	} {
		if _, at, e := Types(flat(t, inMethod(s))); e != api.OK {
			t.Errorf("%s: %d at %d", s, e, at)
		}
	}
}

func TestFlows(t *testing.T) { // P8.3
	const more = "type Pos = n: Nat | 0 < n witness 1 datatype Box<T> = B(n: Nat, t: T, l: List<Nat>, m: map<T, Nat>) | E class Two { var n: Nat; var l: seq<Pos>; ghost var i: int; } function g<T>(n: Nat, l: List<Nat>, x: T, k: map<T, Nat>): T method h<T>(n: Nat, k: map<T, Nat>) returns (l: List<T>, n2: int) method cells() returns (c: Cell) "
	for s, want := range map[string]string{
		"w := 1;": "1 Nat", "x := 1;": "", "c.w := 2;": "2 Nat", "c.v := 2;": "", "v[0] := 3;": "", "v := v;": "v array<Nat>", "a[0] := w;": "",
		"var k: Nat := 4;": "4 Nat", "ghost var k: seq<Nat> := [5];": "[5] seq<Nat>", "var k: int := w;": "",
		"x := f(w);": "", "x := g(6, Nil, 7, map[]);": "6 Nat; Nil List<Nat>; map[] map<int,Nat>", "w := g(6, Nil, b, map[b := 1]) ==> true;": "!",
		"y := g(6, Nil, b, map[b := 1]);": "6 Nat; Nil List<Nat>; map[b := 1] map<bool,Nat>", "print B(1, 2, Nil, map[]);": "1 Nat; Nil List<Nat>; map[] map<int,Nat>", "print [E, B(1, l, Nil, map[])];": "1 Nat; Nil List<Nat>; map[] map<List<int>,Nat>",
		"x, w := call h(1, map[2 := 3]);": "!", "l, w := call h(1, map[2 := 3]);": "w Nat; 1 Nat; map[2 := 3] map<int,Nat>", "w, y := call p(x, x);": "w Nat; x Nat", "x, y := call p(x, w);": "w Nat", "c := call cells();": "",
		"c := new Cell(1, 2);": "2 Nat", "v := new array<Nat>(1, 2);": "2 Nat", "a := new array<int>(1, w);": "", "v := new array<int>(1, 2);": "",
		"var t: Two; t := new Two(1, [2], 3);": "1 Nat; [2] seq<Pos>", "w :| w < 1;": "", "w := *;": "", "if len(l) < f(x) { w := len(Nil + l); }": "!",
		"match l { case Cons(h, r) => { w := h; x := h; } case _ => { } }": "h Nat", "match B(1, w, Nil, map[]) { case B(n, k, _, _) => { n := k; } case E => { } }": "1 Nat; Nil List<Nat>; map[] map<int,Nat>",
		"forall k: Nat | k < 1 ensures true { k := 2; }": "2 Nat", "var d: Box<bool>; d.l := Nil; d.m := map[]; d.t := b;": "Nil List<Nat>; map[] map<bool,Nat>", "assert (var k := w; k) == w;": "",
	} {
		p := flat(t, strings.Replace(inMethod(s), "method m(", more+"method m(", 1))
		l, at, e := Flows(p)
		if want == "!" {
			if e != api.ErrType {
				t.Errorf("%s: %d at %d", s, e, at)
			}
			continue
		}
		var texts []string
		for i, f := range l {
			part, _ := tree.Sub(p, f.Node)
			text, _ := tree.Print(part)
			if i > 0 && f.Node <= l[i-1].Node {
				t.Errorf("%s: %v", s, l)
			}
			if f.Node > nth(p, api.SVar, "z", 0) {
				texts = append(texts, text+" "+f.Type)
			}
		}
		if got := strings.Join(texts, "; "); got != want || e != api.OK {
			t.Errorf("the flows of %s: %s, %d at %d, want %s", s, got, e, at, want)
		}
	}
	for s, want := range map[string]string{
		"const c: Nat := 1;": "0 Nat; 1 Nat", "const c: seq<Pos> := [];": "0 Nat; 1 Pos; [] seq<Pos>", "function kk(): Nat { 2 }": "0 Nat; 2 Nat", "function kk(): int { len(Nil) + 1 }": "!", "function kk<T>(x: T): map<T, Nat> { map[] }": "0 Nat; map[] map<T,Nat>",
		"function kk<T>(x: T): T { g(1, Nil, x, map[]) }": "0 Nat; 1 Nat; Nil List<Nat>; map[] map<T,Nat>", "type Odd = x: Nat | len(Nil + Nil) < x witness 3": "!", "type Odd = x: Nat | f(x) < x witness 3": "0 Nat; 3 Odd",
		"function kk(n: Nat): bool requires n == 0 ensures n == 1 decreases n { forall m: Nat :: m == n }": "0 Nat",
	} {
		text := "type Nat = x: int | 0 <= x witness 0 datatype List<T> = Nil | Cons(head: T, tail: List<T>) "
		if strings.Contains(s, "Pos") {
			text += "type Pos = n: Nat | 0 < n witness 1 "
		}
		text += s + " function len<T>(l: List<T>): Nat function f(n: int): int function g<T>(n: Nat, l: List<Nat>, x: T, k: map<T, Nat>): T"
		p := flat(t, text)
		l, at, e := Flows(p)
		var texts []string
		for _, f := range l {
			part, _ := tree.Sub(p, f.Node)
			printed, _ := tree.Print(part)
			texts = append(texts, printed+" "+f.Type)
		}
		if got := strings.Join(texts, "; "); want != "!" && (got != want || e != api.OK) || want == "!" && e == api.OK {
			t.Errorf("the flows of %s: %s, %d at %d, want %s", s, got, e, at, want)
		}
	}
}

func TestContext(t *testing.T) { // P8.3
	p := flat(t, some+"method m<T>(i: Nat, ghost t: T) returns (o: seq<Nat>) requires here(1) ensures here(2) { var j: List<T>; { var k: int := if here(3) then 1 else 2; ghost var i: bool; match list { case Cons(h, _) => { xx := here(4); } case e => { } } } "+
		"yy := (var v := [1]; forall a: Nat, j: real {here(5)} :: match v { case c => here(6) }); forall q: Nat | here(7) ensures here(8) { var o: Nat; xx := here(9); } zz := here(10); } "+
		"type S = s: Nat | here(11) witness (if here(12) then 1 else 2) function here(n: int): bool const list: List<Nat> := Nil; const xx: bool := true; const yy: bool := false; const zz: bool := here(13);")
	// Assignments to constants are no concern of this chapter.
	for call, want := range map[string]string{
		"1": "i: Nat, t: T", "2": "i: Nat, t: T, o: seq<Nat>", "3": "i: Nat, t: T, o: seq<Nat>, j: List<T>", "4": "t: T, o: seq<Nat>, j: List<T>, k: int, i: bool, h: int", "5": "i: Nat, t: T, o: seq<Nat>, v: seq<int>, a: Nat, j: real", "6": "i: Nat, t: T, o: seq<Nat>, v: seq<int>, a: Nat, j: real, c: seq<int>",
		"7": "i: Nat, t: T, o: seq<Nat>, j: List<T>, q: Nat", "8": "i: Nat, t: T, o: seq<Nat>, j: List<T>, q: Nat", "9": "i: Nat, t: T, j: List<T>, q: Nat, o: Nat", "10": "i: Nat, t: T, o: seq<Nat>, j: List<T>", "11": "s: Nat", "12": "", "13": "",
	} {
		node := -1
		for i, n := range p {
			if n.Op == api.ECall && n.Text == "here" && p[n.Kids[0]].Text == call {
				node = i
			}
		}
		l, e := Context(p, node)
		var texts []string
		for _, v := range l {
			texts = append(texts, v.Name+": "+v.Sort)
		}
		if got := strings.Join(texts, ", "); got != want || e != api.OK {
			_, at, _ := Types(p)
			t.Errorf("the context of here(%s): %s, %d (at %d), want %s", call, got, e, at, want)
		}
	}
	for _, node := range []int{0, len(p) - 1} {
		if l, e := Context(p, node); len(l) > 0 || e != api.OK {
			t.Errorf("the context at %d: %v, %d", node, l, e)
		}
	}
}

func TestInstances(t *testing.T) { // P8.1
	p := flat(t, some+"method m<U>(u: U, l: List<int>) { var k: List<U>; k := call q(u); call r(); print l.Cons?; match l { case Cons(_, Nil) => { print f(len(Cons([u], Nil))); } case _ => { } } }")
	l, at, e := Instances(p)
	var texts []string
	for _, i := range l {
		texts = append(texts, p[i.Node].Text+" "+strings.Join(i.Args, ","))
	}
	if want := "q U; Cons int; Nil int; Cons int; Nil seq<U>; Cons seq<U>; len seq<U>"; strings.Join(texts, "; ") != want || at != 0 || e != api.OK {
		t.Errorf("Instances: %v, %d at %d, want %s", texts, e, at, want)
	}
}

// TestConsequences takes expressions out of programs, and renames variables.
func TestConsequences(t *testing.T) { // P8.4
	for _, s := range []string{example, declared, inMethod("x := (var k := [l]; match k[0] { case Cons(h, r) => h + #k case _ => f(len(l)) }); y := forall k: Nat, j: seq<int> {j[k]} :: k in j ==> (exists h: bool :: h == (k == j[0]));")} {
		p := flat(t, s)
		l, _, e := Types(p)
		if e != api.OK {
			t.Fatalf("%s: %d", s, e)
		}
		alone := 0
		for node, typ := range l {
			if class, _ := tree.Class(p[node].Op); (typ != "") != (class == tree.Expression || class == tree.Pattern) {
				t.Errorf("the node %d of the class %d has the type %q", node, class, typ)
			}
			if class, _ := tree.Class(p[node].Op); typ == "" || class != tree.Expression {
				continue
			}
			part, _ := tree.Sub(p, node)
			vars, _ := Context(p, node)
			if got, e := TypeOf(p, part, vars); e == api.OK {
				alone++
				if got != typ {
					t.Errorf("the type of the node %d: %s alone, %s in its place", node, got, typ)
				}
			}
			var free []string
			for _, v := range vars {
				free = append(free, typeParameters(p, v.Sort)...)
			}
			if base, e := types.Base(p, typ); base != typ || e != api.OK || types.Check(p, typ, append(free, typeParameters(p, typ)...)) != api.OK && len(free) == 0 {
				t.Errorf("the type of the node %d: %s, base %s, %d", node, typ, base, e)
			}
		}
		if alone == 0 {
			t.Errorf("%s: no expression alone", s)
		}
		for _, n := range p {
			if n.Op != api.SVar && n.Op != api.DParam && n.Op != api.PVar && n.Op != api.QVar && n.Op != api.ELet {
				continue
			}
			q := slices.Clone(p)
			for i := range q {
				if q[i].Text == n.Text && (q[i].Op == n.Op || q[i].Op == api.EVar || q[i].Op == api.SNew || q[i].Op == api.DParam || q[i].Op == api.PVar || q[i].Op == api.ELet || q[i].Op == api.QVar || q[i].Op == api.SVar) {
					q[i].Text = "fresh_1"
				}
			}
			if again, at, e := Types(q); !slices.Equal(again, l) || e != api.OK {
				t.Errorf("with another name for %s: %d at %d", n.Text, e, at)
			}
		}
	}
}

// typeParameters returns the names in a type that are not declared.
func typeParameters(p api.Tree, typ string) []string {
	var names []string
	t, _ := types.Tree(typ)
	for _, n := range t {
		if _, e := types.Decl(p, n.Text); n.Op == api.TName && e == api.ErrUnknown && !slices.Contains(names, n.Text) {
			names = append(names, n.Text)
		}
	}
	return names
}

// TestReplaced replaces variables by expressions of their types.
func TestReplaced(t *testing.T) { // P8.4
	p := flat(t, declared)
	for _, s := range []string{"i + 1 < n", "forall x: int :: x < i && b", "[l, Nil]", "match l { case Cons(h, r) => [h] case _ => [b] }", "s + [i]", "if b then s else [n]", "var x := i; x + i", "#s + len(l)"} {
		x := expr(t, s)
		want, e := TypeOf(p, x, given)
		if e != api.OK {
			t.Fatalf("%s: %d", s, e)
		}
		for name, by := range map[string]string{"i": "n * 2", "b": "i in s", "l": "Cons(b, l)", "s": "s[0..i]", "n": "#t"} {
			put, _, _ := parse.Expression(by)
			changed, e := tree.Subst(x, name, put)
			if got, f := TypeOf(p, changed, given); got != want || e != api.OK || f != api.OK {
				t.Errorf("%s with %s for %s: %s, %d, %d", s, by, name, got, e, f)
			}
		}
	}
}
