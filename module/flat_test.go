package module

import (
	"math/rand"
	"slices"
	"strconv"
	"strings"
	"testing"

	"entail/api"
	"entail/parse"
	"entail/tree"
)

var wrongFlats = []where{
	{"module A { } module B refines A { const c: int := d; }", api.MRefines, "A", 0, api.ErrRefine},
	{"module B { const c: int := d; } module C refines B { } module A refines B { }", api.MRefines, "B", 0, api.ErrRefine},
	{"module B refines A { const c: int := d; } module A { }", api.MRefines, "A", 0, api.ErrRefine},
	{"module A { const c: int := d; }", api.EVar, "d", 0, api.ErrUnknown},
	{"module A { const c: D := 1; }", api.TName, "D", 0, api.ErrUnknown},
	{"module A { const c: seq<B::D> := 1; }", api.TName, "B::D", 0, api.ErrUnknown},
	{"module A { import B; const c: seq<B::D> := 1; } module B { export; datatype D = X }", api.TName, "B::D", 0, api.ErrExport},
	{"module A { import B; const c: B::D := B::X; } module B { export D; datatype D = X }", api.ECons, "B::X", 0, api.ErrExport},
	{"module A { import B; const c: B::D := C::X; } module B { import C; } module C { datatype D = X }", api.TName, "B::D", 0, api.ErrUnknown},
	{"module A { import B; const c: int := C::x; } module B { import C; } module C { const x: int := 1; }", api.EVar, "C::x", 0, api.ErrUnknown},
	{"module A { function f(): int { f } }", api.EVar, "f", 0, api.ErrKind},
	{"module A { function f(): int { c() } const c: int := 1; }", api.ECall, "c", 0, api.ErrKind},
	{"module A { function f(): int { m() } method m() }", api.ECall, "m", 0, api.ErrKind},
	{"module A { method m() { call f(); } function f(): int }", api.SCall, "f", 0, api.ErrKind},
	{"module A { method m() { reveal m; } }", api.SReveal, "m", 0, api.ErrKind},
	{"module A { method m() { reveal f; } }", api.SReveal, "f", 0, api.ErrUnknown},
	{"module A { datatype D = X const c: D := D; }", api.ECons, "D", 0, api.ErrKind},
	{"module A { datatype D = X const c: X := X; }", api.TName, "X", 0, api.ErrKind},
	{"module A { datatype D = X const c: bool := X.D?; }", api.EIs, "D", 0, api.ErrKind},
	{"module A { datatype D = X function f(x: D): int { match x { case D => 1 } } }", api.PCons, "D", 0, api.ErrKind},
	{"module A { datatype D = X function f(x: D): int { match x { case Y => 1 } } }", api.PCons, "Y", 0, api.ErrUnknown},
	// The node with the least index decides, in the first module of the text.
	{"module B { import A; const x: int := y; } module A { const x: int := z; }", api.EVar, "y", 0, api.ErrUnknown},
	{"module A { function f(x: E, x: D): int }", api.TName, "E", 0, api.ErrUnknown},
	{"module A { function f(x: int, x: D): int }", api.TName, "D", 0, api.ErrUnknown},
	// Local variables that are declared twice.
	{"module A { function f(x: int, y: int, x: int): int }", api.DParam, "x", 1, api.ErrTwice},
	{"module A { function f(x: int, ghost x: int): int }", api.DGhostParam, "x", 0, api.ErrTwice},
	{"module A { method f(x: int) returns (x: int) }", api.DOut, "x", 0, api.ErrTwice},
	{"module A { method f() returns (x: int, x: int) }", api.DOut, "x", 1, api.ErrTwice},
	{"module A { function f(x: int): int { var x := 1; 1 } }", api.ELet, "x", 0, api.ErrTwice},
	{"module A { function f(x: int): int { var y := 1; var y := 2; y } }", api.ELet, "y", 0, api.ErrTwice},
	{"module A { const c: bool := forall x: int, y: int, x: int :: true; }", api.QVar, "x", 1, api.ErrTwice},
	{"module A { const c: bool := forall x: int :: exists x: int :: true; }", api.QVar, "x", 1, api.ErrTwice},
	{"module A { function f(x: bool): set<int> { set x: int | true :: 1 } }", api.QVar, "x", 0, api.ErrTwice},
	{"module A { datatype D = X(a: int, b: int) function f(x: D): int { match x { case X(y, y) => 1 } } }", api.PVar, "y", 1, api.ErrTwice},
	{"module A { datatype D = X(a: D, b: int) function f(x: D): int { match x { case X(X(y, _), y) => 1 } } }", api.PVar, "y", 1, api.ErrTwice},
	{"module A { function f(x: int): int { match x { case x => 1 } } }", api.PVar, "x", 0, api.ErrTwice},
	{"module A { method m(x: int) { var x: int; } }", api.SVar, "x", 0, api.ErrTwice},
	{"module A { method m() { var x: int; ghost var x: int; } }", api.SGhostVar, "x", 0, api.ErrTwice},
	{"module A { method m() { var x: int; { var x: int; } } }", api.SVar, "x", 1, api.ErrTwice},
	{"module A { method m() returns (x: int) { match 1 { case x => { } } } }", api.PVar, "x", 0, api.ErrTwice},
	{"module A { method m(x: int) { forall x: int | true ensures true { } } }", api.QVar, "x", 0, api.ErrTwice},
	{"module A { method m() { forall x: int, x: int | true ensures true { } } }", api.QVar, "x", 1, api.ErrTwice},
	{"module A { method m() { forall x: int | true ensures true { var x: int; } } }", api.SVar, "x", 0, api.ErrTwice},
	{"module A { type S = x: int | forall x: int :: true witness 0 }", api.QVar, "x", 0, api.ErrTwice},
	{"module A { function f<T, T>(): int }", api.DTypeParam, "T", 1, api.ErrTwice},
	{"module A { datatype D<T, U, T> = X }", api.DTypeParam, "T", 1, api.ErrTwice},
	// What has a module in its name cannot be declared in a module with one.
	{"module A { const B::c: int := 1; }", api.EInt, "1", 0, api.ErrName},
}

func TestWrongFlats(t *testing.T) { // P7.2
	for _, c := range wrongFlats {
		p := read(t, c.text)
		node := nth(p, c.op, c.name, c.n)
		if c.e == api.ErrName {
			node = 0
		}
		if flat, at, e := Flat(p); flat != nil || at != node || e != c.e {
			t.Errorf("%s: %d, %d, want %d, %d", c.text, at, e, node, c.e)
		}
	}
}

func TestFlat(t *testing.T) { // P7.2
	for s, want := range map[string]string{
		"": "", "module A { }": "", "const c: int := 1; const d: int := c;": "const c: int := 1;\nconst d: int := c;",
		// A name in another one's place: type parameters, local variables, fields, and names that stand beside a scope.
		"module A { datatype T = X(v: T) function f<T>(x: T, y: U<T>): T { x } datatype U<T> = Y(v: T) function g(x: T): int }": "datatype A::T = A::X(v: A::T)\nfunction A::f<T>(x: T, y: A::U<T>): T\n{\n  x\n}\ndatatype A::U<T> = A::Y(v: T)\nfunction A::g(x: A::T): int",
		"module A { const x: int := 1; function f(y: int): int { (var x := x; x) + x } }":                                       "const A::x: int := 1;\nfunction A::f(y: int): int\n{\n  (var x := A::x; x) + A::x\n}",
		"module A { const v: int := 1; class C { var v: int; } function f(c: C): int { c.v + v } }":                             "const A::v: int := 1;\nclass A::C {\n  var v: int;\n}\nfunction A::f(c: A::C): int\n{\n  c.v + A::v\n}",
		"module A { const y: int := 1; method m() returns (y: int) requires y == 1 ensures y == 1 }":                            "const A::y: int := 1;\nmethod A::m() returns (y: int)\n  requires A::y == 1\n  ensures y == 1",
		"module A { const x: int := 1; type S = x: int | x == 1 witness x }":                                                    "const A::x: int := 1;\ntype A::S = x: int | x == 1 witness A::x",
		"module A { method m() { x := new C<int>(1); { var x: int; } x :| x == c; reveal f; x, c := call m(); } const x: int := 1; class C { } const c: int := 2; function f(): int }": "method A::m()\n{\n  x := new A::C<int>(1);\n  {\n    var x: int;\n  }\n  x :| A::x == A::c;\n  reveal A::f;\n" +
			"  A::x, A::c := call A::m();\n}\nconst A::x: int := 1;\nclass A::C {\n}\nconst A::c: int := 2;\nfunction A::f(): int",
		"module A { datatype D = X(d: D) | Y function f(a: D): bool { match a { case X(b) => b.X? case Y => A::X(Y) == A::Y } } }": "datatype A::D = A::X(d: A::D) | A::Y\nfunction A::f(a: A::D): bool\n{\n  match a { case A::X(b) => b.A::X? case A::Y => A::X(A::Y) == A::Y }\n}",
		// Marks: behind all others, for functions alone that are exported and not revealed.
		"module A { export f, +g, m, c; ghost opaque function f(): int hidden function g(): int function h(): int method m() const c: int := 1; }": "ghost opaque hidden function A::f(): int\nhidden function A::g(): int\nfunction A::h(): int\nmethod A::m()\nconst A::c: int := 1;",
		"module A { export f; hidden function f<T>(x: T): int { f(x) } }":                                                                          "hidden hidden function A::f<T>(x: T): int\n{\n  A::f(x)\n}",
		// Modules come in their order, declarations in that of the text.
		"module C { import A; import B; const c: int := A::c + B::c; } module B { const c: int := 1; const b: int := c; } module A { import B; const c: int := B::c; }": "const B::c: int := 1;\nconst B::b: int := B::c;\nconst A::c: int := B::c;\nconst C::c: int := A::c + B::c;",
		"const M::c: int := 1; const d: int := 2;": "const M::c: int := 1;\nconst d: int := 2;",
	} {
		p := read(t, s)
		flat, at, e := Flat(p)
		text, f := tree.Print(flat)
		if text != want || e != api.OK || f != api.OK || at != 0 {
			t.Errorf("%s: %s, %d at %d, %d", s, text, e, at, f)
		}
	}
}

// maker makes random programs of modules. A careful one makes few mistakes.
type maker struct {
	*rand.Rand
	careful bool
	locals  *int
}

func newMaker(seed int64) maker { return maker{rand.New(rand.NewSource(seed)), false, new(int)} }

func (m maker) pick(l ...string) string { return l[m.Intn(len(l))] }

// isWild reports whether a mistake may be made.
func (m maker) isWild() bool { return !m.careful || m.Intn(45) == 0 }

// name makes a name, at times a qualified one. The first one of the list is always right.
func (m maker) name(l ...string) string {
	if !m.isWild() {
		return l[0]
	}
	if m.Intn(3) == 0 {
		return m.pick("A", "B", "C") + "::" + m.pick(l...)
	}
	return m.pick(l...)
}

func (m maker) typ() string {
	switch m.Intn(4) {
	case 0:
		return "seq<" + m.typ() + ">"
	case 1:
		return m.name("S", "D", "E", "K", "T")
	}
	if !m.isWild() {
		return m.pick("int", "D")
	}
	return m.pick("int", "T", "D")
}

// local makes the name of a local variable that is declared.
func (m maker) local() string {
	if !m.isWild() {
		*m.locals++
		return "a" + strconv.Itoa(*m.locals)
	}
	return m.variable()
}

func (m maker) variable() string { return m.pick("x", "y", "z", "u", "v", "w") }

func (m maker) expression(depth int) string {
	next := func() string { return m.expression(depth - 1) }
	if depth == 0 && !m.isWild() {
		return m.pick("1", "x", "c")
	}
	if depth == 0 {
		return m.pick("1", m.variable(), m.variable(), m.name("c", "d", "f"), m.name("X", "Y"))
	}
	v := m.local()
	switch m.Intn(9) {
	case 0:
		return "(var " + v + " := " + next() + "; " + v + " + " + next() + ")"
	case 1:
		return "(forall " + v + ": " + m.typ() + ", " + m.local() + ": int :: " + v + " == " + next() + ")"
	case 2:
		return m.name("f", "g", "m") + "(" + next() + ")"
	case 3:
		return m.name("X", "Y", "D") + "(" + next() + ")"
	case 4:
		return "(match " + next() + " { case " + m.name("X", "Y") + "(" + v + ", " + m.local() + ") => " + v + " + " + next() + " case _ => " + next() + " })"
	case 5:
		return next() + "." + m.name("X", "Y") + "?"
	case 6:
		return "(set " + v + ": int | " + next() + " :: " + next() + " + " + v + ")"
	}
	return "(" + next() + " + " + next() + ")"
}

func (m maker) statement(depth int) string {
	e := func() string { return m.expression(1) }
	v := m.local()
	declared := "var " + v + ": " + m.typ() + "; "
	switch m.Intn(8) {
	case 0:
		return "var " + v + ": " + m.typ() + " := " + e() + "; "
	case 1:
		return declared + v + " := call " + m.name("m", "f") + "(" + e() + "); "
	case 2:
		return "reveal " + m.name("f", "g", "m") + "; "
	case 3:
		return "forall " + v + ": int | " + e() + " ensures " + e() + " { " + m.block(depth) + "print " + v + "; } "
	case 4:
		return "match " + e() + " { case " + m.name("X", "Y") + "(" + v + ") => { " + m.block(depth) + "print " + v + "; } } "
	case 5:
		return v + " := new " + m.name("K", "D") + "(" + e() + "); "
	}
	return declared + v + " := " + e() + "; "
}

func (m maker) block(depth int) string {
	text := ""
	if depth > 0 {
		for range m.Intn(3) {
			text += m.statement(depth - 1)
		}
	}
	return text
}

// module makes a module with some of the declarations.
func (m maker) module(name string) string {
	m.careful = m.Intn(20) > 0
	text := "module " + name + " { "
	for _, other := range []string{"A", "B", "C"} {
		if other > name && m.Intn(2) == 0 {
			text += "import " + other + "; "
		}
	}
	if m.Intn(2) == 0 {
		text += "export " + m.pick("f", "+f") + ", " + m.pick("+D", "D") + ", m; "
	}
	one := func() string { return m.expression(1 + m.Intn(2)) }
	variables := m.pick("", "<T>")
	text += "datatype D" + variables + " = X(x: " + m.typ() + ") | Y(y: int) "
	text += m.pick("ghost ", "") + "function f" + variables + "(" + m.local() + ": " + m.typ() + "): int requires " + one() + " { " + one() + " } "
	text += "method m(" + m.local() + ": int) returns (" + m.local() + ": " + m.typ() + ") ensures " + one() + " { " + m.block(3) + "} "
	for _, more := range []string{"const c: int := 1; const x: int := c; ", "type S = " + m.local() + ": int | " + one() + " witness " + one() + " ", "class K { var k: " + m.typ() + "; } "} {
		if m.Intn(2) == 0 || m.careful {
			text += more
		}
	}
	return text + "} "
}

// naive finds the new Text of a node by the words of the chapter, with tree.Bound.
type naive struct {
	p       api.Tree
	parents []int
	module  int
}

// parentsOf returns the parents of all nodes.
func parentsOf(p api.Tree) []int {
	parents := make([]int, len(p))
	parents[len(p)-1] = -1
	for i, n := range p {
		for _, kid := range n.Kids {
			parents[kid] = i
		}
	}
	return parents
}

// around returns the nodes around a node.
func (n naive) around(node int) []int {
	var l []int
	for node = n.parents[node]; node >= 0; node = n.parents[node] {
		l = append(l, node)
	}
	return l
}

// scoped reports whether a local variable is in scope at a node.
func (n naive) scoped(node int) bool {
	l, _ := tree.Bound(n.p, node)
	return slices.Contains(l, n.p[node].Text)
}

// beside returns the nodes with some Ops that stand in the same list before a node.
func (n naive) beside(node int) bool {
	root := n.parents[node]
	for n.p[node].Op == api.PVar && n.p[root].Op == api.PCons {
		root = n.parents[root]
	}
	groups := [][]int{{api.DParam, api.DGhostParam, api.DOut}, {api.QVar}, {api.PVar}, {api.DTypeParam}}
	for _, g := range groups {
		if !slices.Contains(g, n.p[node].Op) {
			continue
		}
		for i := range node {
			if n.p[i].Text != n.p[node].Text || !slices.Contains(g, n.p[i].Op) {
				continue
			}
			if around := n.around(i); slices.Contains(around, root) && (n.p[node].Op == api.PVar || around[0] == root) {
				return true
			}
		}
	}
	return false
}

// text returns the new Text of a node, or its error.
func (n naive) text(node int) (string, api.Errno) {
	k := n.p[node]
	module := n.p[n.module].Text
	permitted := map[int][]int{api.TName: {api.DDatatype, api.DSubset, api.DClass}, api.EVar: {api.DConst}, api.ECall: {api.DFunction}, api.ECons: {api.DCons}, api.EIs: {api.DCons}, api.PCons: {api.DCons}, api.SCall: {api.DMethod}, api.SReveal: {api.DFunction}}
	switch k.Op {
	case api.DDatatype, api.DCons, api.DSubset, api.DClass, api.DConst, api.DFunction, api.DMethod:
		return module + "::" + k.Text, api.OK
	case api.DParam, api.DGhostParam, api.DOut, api.SVar, api.SGhostVar, api.ELet, api.QVar, api.PVar, api.DTypeParam:
		if n.beside(node) || k.Op != api.DTypeParam && n.scoped(node) {
			return "", api.ErrTwice
		}
	case api.TName:
		for _, root := range n.around(node) {
			for _, kid := range n.p[root].Kids {
				if n.p[kid].Op == api.DTypeParam && n.p[kid].Text == k.Text {
					return k.Text, api.OK
				}
			}
		}
	case api.EVar:
		if n.scoped(node) {
			return k.Text, api.OK
		}
	}
	ops, found := permitted[k.Op]
	if !found {
		return k.Text, api.OK
	}
	entry, e := Resolve(n.p, module, k.Text)
	if e == api.OK && !slices.Contains(ops, entry.Op) {
		e = api.ErrKind
	}
	return entry.Full, e
}

// TestRandomFlats compares Flat with the words of the chapter.
func TestRandomFlats(t *testing.T) { // P7.2, P7.3
	m := newMaker(7)
	counts := map[api.Errno]int{}
	for range 700 {
		text := m.module("A") + m.module("B") + m.module("C")
		p, _, e := parse.Program(text)
		if e != api.OK {
			t.Fatalf("%s: %d", text, e)
		}
		flat, at, e := Flat(p)
		counts[e]++
		var texts []string
		last, wanted := 0, api.OK
		root, parents := p[len(p)-1], parentsOf(p)
	modules:
		for _, module := range root.Kids {
			for node := last; node <= module; node++ {
				s, f := naive{p, parents, module}.text(node)
				last = node + 1
				if f != api.OK {
					wanted = f
					break modules
				}
				texts = append(texts, s)
			}
		}
		if _, _, f := Order(p); f != api.OK {
			if e != f {
				t.Fatalf("%s: %d, want %d", text, e, f)
			}
			continue
		}
		if e != wanted || e != api.OK && at != last-1 {
			t.Fatalf("%s: %d at %d, want %d at %d", text, e, at, wanted, last-1)
		}
		if e == api.OK {
			checkFlat(t, p, flat, texts)
			checkRenamed(t, text, flat)
		}
	}
	for _, e := range []api.Errno{api.OK, api.ErrTwice, api.ErrUnknown, api.ErrKind, api.ErrExport} {
		if counts[e] == 0 {
			t.Errorf("no program with the error %d: %v", e, counts)
		}
	}
}

// checkFlat compares a flat program with the new texts of the nodes.
func checkFlat(t *testing.T, p, flat api.Tree, texts []string) {
	t.Helper()
	order, _, _ := Order(p)
	var want []string
	for _, name := range order {
		from := 0
		for node, n := range p {
			if n.Op != api.MModule {
				continue
			}
			if n.Text == name {
				for i := from; i < node; i++ {
					if op := p[i].Op; op != api.MImport && op != api.MExport && op != api.MName {
						want = append(want, strconv.Itoa(op)+texts[i]+strconv.Itoa(p[i].At))
					}
				}
			}
			from = node + 1
		}
	}
	var got []string
	for _, n := range flat[:len(flat)-2] {
		if n.Op != api.DMark || n.Text != "hidden" {
			got = append(got, strconv.Itoa(n.Op)+n.Text+strconv.Itoa(n.At))
		}
	}
	if !slices.Equal(got, want) {
		t.Fatalf("%v, want %v", got, want)
	}
	globals, _ := tree.Globals(flat)
	names, e := Names(flat)
	for _, n := range flat {
		if n.Op == api.DCons {
			names = append(names, n.Text)
		}
		if n.Op == api.DTypeParam {
			names = append(names, n.Text)
		}
	}
	for _, g := range globals {
		if !slices.Contains(names, g) || e != api.OK {
			t.Fatalf("%s is not declared", g)
		}
	}
	text, _ := tree.Print(flat)
	if again, _, e := parse.Program(text); e != api.OK || !tree.Same(again, flat) {
		t.Fatalf("the text of a flat program: %d", e)
	}
	for _, name := range order {
		c, _ := Closure(p, name)
		part, _, e := Flat(c)
		text, _ := tree.Print(part)
		if e != api.OK {
			t.Fatalf("the flat program of a closure: %d", e)
		}
		whole, _ := tree.Print(flat)
		for _, line := range strings.Split(text, "\n") {
			if !strings.Contains(whole, line) {
				t.Fatalf("%s is not in %s", line, whole)
			}
		}
	}
}

// checkRenamed gives another name to a module: nothing but qualified names changes.
func checkRenamed(t *testing.T, text string, flat api.Tree) {
	t.Helper()
	rename := strings.NewReplacer("A::", "Q::", "module A ", "module Q ", "import A;", "import Q;")
	p, _, _ := parse.Program(rename.Replace(text))
	other, _, e := Flat(p)
	before, _ := tree.Print(flat)
	after, _ := tree.Print(other)
	if e != api.OK || rename.Replace(before) != after {
		t.Fatalf("with another name for a module: %d, %s", e, after)
	}
}

// TestDamaged changes nodes of programs: whatever is asked of them, there is an answer.
func TestDamaged(t *testing.T) { // P1
	m := newMaker(8)
	for range 600 {
		p, _, e := parse.Program(m.module("A") + m.module("B"))
		if e != api.OK {
			t.Fatal(e)
		}
		for range 1 + m.Intn(2) {
			n := &p[m.Intn(len(p))]
			switch m.Intn(4) {
			case 0:
				n.Op = m.Intn(api.Ops+4) - 2
			case 1:
				n.Text = m.pick("", "D", "A", "x", "B::D", "ghost", "M::x")
			case 2:
				n.Kids = append(n.Kids, m.Intn(len(p)+2)-1)
			case 3:
				n.At = m.Intn(5) - 2
			}
		}
		want, f := tree.Check(p)
		_, at, e := Flat(p)
		if f != api.OK && (e != f || at != want) {
			t.Fatalf("%d at %d, want %d at %d", e, at, f, want)
		}
		Order(p)
		Names(p)
		for _, name := range []string{"", "A", "B", "D"} {
			Exports(p, name)
			Visible(p, name)
			Resolve(p, name, "f")
			Resolve(p, name, "B::D")
			Closure(p, name)
			Clients(p, name)
		}
	}
}
