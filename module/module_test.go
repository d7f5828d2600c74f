package module

import (
	"slices"
	"strings"
	"testing"

	"entail/api"
	"entail/parse"
	"entail/tree"
)

// read returns the tree of a program.
func read(t *testing.T, s string) api.Tree {
	t.Helper()
	p, at, e := parse.Program(s)
	if e != api.OK {
		t.Fatalf("%q: %d at %q", s, e, s[at:])
	}
	return p
}

const exampleText = "module A { import B; function f(x: int): int { B::g(x) } const c: int := 1; } " +
	"module B { export g, +D; function g(x: int): int { x } datatype D = Nil | One(v: int) function h(x: int): int { x } }"

// nth returns the node that is the n-th one (from 0 on) with an Op and a Text.
func nth(p api.Tree, op int, text string, n int) int {
	for i, node := range p {
		if node.Op == op && node.Text == text {
			if n == 0 {
				return i
			}
			n--
		}
	}
	return -1
}

func TestExamples(t *testing.T) { // P7.1, P7.2
	p := read(t, exampleText)
	if l, at, e := Order(p); !slices.Equal(l, []string{"B", "A"}) || at != 0 || e != api.OK {
		t.Errorf("Order: %v, %d, %d", l, at, e)
	}
	if l, e := Exports(p, "B"); !slices.Equal(l, []Export{{"g", false}, {"D", true}, {"Nil", true}, {"One", true}}) || e != api.OK {
		t.Errorf("Exports: %v, %d", l, e)
	}
	if l, e := Exports(p, "A"); !slices.Equal(l, []Export{{"f", true}, {"c", true}}) || e != api.OK {
		t.Errorf("Exports: %v, %d", l, e)
	}
	want := []Entry{{"f", "A::f", api.DFunction, true}, {"c", "A::c", api.DConst, true}, {"B::g", "B::g", api.DFunction, false},
		{"B::D", "B::D", api.DDatatype, true}, {"B::Nil", "B::Nil", api.DCons, true}, {"B::One", "B::One", api.DCons, true}}
	if l, e := Visible(p, "A"); !slices.Equal(l, want) || e != api.OK {
		t.Errorf("Visible: %v, %d", l, e)
	}
	want = []Entry{{"g", "B::g", api.DFunction, true}, {"D", "B::D", api.DDatatype, true}, {"Nil", "B::Nil", api.DCons, true},
		{"One", "B::One", api.DCons, true}, {"h", "B::h", api.DFunction, true}}
	if l, e := Visible(p, "B"); !slices.Equal(l, want) || e != api.OK {
		t.Errorf("Visible: %v, %d", l, e)
	}
	flat, at, e := Flat(p)
	text, _ := tree.Print(flat)
	if wanted := "hidden function B::g(x: int): int\n{\n  x\n}\ndatatype B::D = B::Nil | B::One(v: int)\nfunction B::h(x: int): int\n{\n  x\n}\n" +
		"function A::f(x: int): int\n{\n  B::g(x)\n}\nconst A::c: int := 1;"; text != wanted || at != 0 || e != api.OK {
		t.Errorf("Flat: %s, %d, %d", text, at, e)
	}
	if l, e := Names(flat); !slices.Equal(l, []string{"B::g", "B::D", "B::h", "A::f", "A::c"}) || e != api.OK {
		t.Errorf("Names: %v, %d", l, e)
	}
	q := read(t, strings.Replace(exampleText, "module B {", "module B { import A;", 1))
	if l, at, e := Order(q); len(l) > 0 || at != nth(q, api.MModule, "A", 0) || e != api.ErrCycle {
		t.Errorf("Order of a cycle: %v, %d, %d", l, at, e)
	}
}

func TestResolve(t *testing.T) { // P7.1
	p := read(t, exampleText)
	for _, c := range []struct {
		module, name string
		want         Entry
		e            api.Errno
	}{
		{"A", "f", Entry{"f", "A::f", api.DFunction, true}, api.OK}, {"A", "A::f", Entry{"A::f", "A::f", api.DFunction, true}, api.OK},
		{"A", "B::g", Entry{"B::g", "B::g", api.DFunction, false}, api.OK}, {"A", "B::One", Entry{"B::One", "B::One", api.DCons, true}, api.OK},
		{"B", "One", Entry{"One", "B::One", api.DCons, true}, api.OK}, {"B", "B::h", Entry{"B::h", "B::h", api.DFunction, true}, api.OK},
		{"A", "B::h", Entry{}, api.ErrExport}, {"A", "B::x", Entry{}, api.ErrUnknown}, {"A", "C::g", Entry{}, api.ErrUnknown}, {"A", "g", Entry{}, api.ErrUnknown},
		{"B", "A::f", Entry{}, api.ErrUnknown}, {"B", "B::A", Entry{}, api.ErrUnknown}, {"C", "f", Entry{}, api.ErrUnknown}, {"C", "1", Entry{}, api.ErrUnknown},
		{"A", "", Entry{}, api.ErrName}, {"A", "1", Entry{}, api.ErrName}, {"A", "::f", Entry{}, api.ErrName}, {"A", "A::", Entry{}, api.ErrName},
		{"A", "A::B::f", Entry{}, api.ErrName}, {"A", "if", Entry{}, api.ErrName}, {"A", "A::if", Entry{}, api.ErrName}, {"A", "if::f", Entry{}, api.ErrName}, {"A", "A:f", Entry{}, api.ErrName},
		{"A", "A::f ", Entry{}, api.ErrName}, {"A", "a::f", Entry{}, api.ErrUnknown}, {"A", "Abcdefghijklmnopqrstuvwxy", Entry{}, api.ErrName}, {"", "f", Entry{}, api.ErrUnknown},
	} {
		if got, e := Resolve(p, c.module, c.name); got != c.want || e != c.e {
			t.Errorf("Resolve(%q, %q): %v, %d, want %v, %d", c.module, c.name, got, e, c.want, c.e)
		}
	}
	// What is refined is not imported, and the module without a name has names of one part.
	q := read(t, "module A { const c: int := 1; } module B refines A { }")
	if _, e := Resolve(q, "B", "A::c"); e != api.ErrUnknown {
		t.Errorf("Resolve in a refining module: %d", e)
	}
	r := read(t, "const c: int := 1;")
	if got, e := Resolve(r, "", "c"); got != (Entry{"c", "c", api.DConst, true}) || e != api.OK {
		t.Errorf("Resolve without a module: %v, %d", got, e)
	}
}

func TestNamesOfTwoParts(t *testing.T) { // P7.2
	long := strings.Repeat("x", 24)
	for s, want := range map[string][2]string{"f": {"", "f"}, "B::g": {"B", "g"}, "g": {"", "g"}, long: {"", long}, "M::" + long: {"M", long}, "m::g": {"m", "g"}, "F": {"", "F"}} {
		module, name, e := Split(s)
		if module != want[0] || name != want[1] || e != api.OK {
			t.Errorf("Split(%q): %q, %q, %d", s, module, name, e)
		}
		if back, e := Join(module, name); back != s || e != api.OK {
			t.Errorf("Join(%q, %q): %q, %d", module, name, back, e)
		}
	}
	for _, s := range []string{"", "::", "f::", "::f", "B::g::h", "B:::g", "B:g", "B::1", "1::g", "int", "B::int", "int::g", "B :: g", long + "x", long + "x::f", "M::" + long + "x", "B::g\xff", "_"} {
		if module, name, e := Split(s); module != "" || name != "" || e != api.ErrName {
			t.Errorf("Split(%q): %q, %q, %d", s, module, name, e)
		}
	}
	for _, p := range [][2]string{{"B", ""}, {"", ""}, {"int", "g"}, {"B", "int"}, {"1", "g"}, {"B", "B::g"}, {"A::B", "g"}, {"", "B::g"}, {"B", long + "x"}} {
		if s, e := Join(p[0], p[1]); s != "" || e != api.ErrName {
			t.Errorf("Join(%q, %q): %q, %d", p[0], p[1], s, e)
		}
	}
}

// where is a program with the place of an error: the n-th node with an Op and a Text.
type where struct {
	text string
	op   int
	name string
	n    int
	e    api.Errno
}

var wrongPrograms = []where{
	{"module A { } module B { } module A { }", api.MModule, "A", 1, api.ErrTwice},
	{"module A { import C; } module B { } module A { }", api.MImport, "C", 0, api.ErrUnknown},
	{"module A { import A; }", api.MImport, "A", 0, api.ErrCycle},
	{"module A { import B; import B; } module B { }", api.MImport, "B", 1, api.ErrTwice},
	{"module A refines B { import B; } module B { }", api.MImport, "B", 0, api.ErrTwice},
	{"module A refines C { import D; } module B { }", api.MRefines, "C", 0, api.ErrUnknown},
	{"module A refines A { import D; } module B { }", api.MRefines, "A", 0, api.ErrCycle},
	{"module A { import B; import D; import A; } module B { }", api.MImport, "D", 0, api.ErrUnknown},
	{"module A { import B; } module B { import C; } module C { import B; }", api.MModule, "A", 0, api.ErrCycle},
	{"module D { } module A { import D; } module B { import C; } module C refines B { }", api.MModule, "B", 0, api.ErrCycle},
	// A wrong name in a later module comes before a cycle, and a cycle before what is declared twice.
	{"module A { import B; } module B { import A; } module C { import A; import A; }", api.MImport, "A", 2, api.ErrTwice},
	{"module A { import B; const c: int := 1; const c: int := 2; } module B { import A; }", api.MModule, "A", 0, api.ErrCycle},
	{"module A { const c: int := 1; const c: int := 2; }", api.DConst, "c", 1, api.ErrTwice},
	{"module A { datatype D = D }", api.DCons, "D", 0, api.ErrTwice},
	{"module A { datatype D = C datatype C = E }", api.DDatatype, "C", 0, api.ErrTwice},
	{"module A { class C { } datatype D = C }", api.DCons, "C", 0, api.ErrTwice},
	{"module A { datatype D = C | C }", api.DCons, "C", 1, api.ErrTwice},
	{"module A { function f(): int method f() }", api.DMethod, "f", 0, api.ErrTwice},
	{"module A { export d; const c: int := 1; }", api.MName, "d", 0, api.ErrUnknown},
	{"module A { export +d; const c: int := 1; }", api.MName, "+d", 0, api.ErrUnknown},
	{"module A { export D, C; datatype D = C }", api.MName, "C", 0, api.ErrKind},
	{"module A { export c, d, +c; const c: int := 1; const d: int := 1; }", api.MName, "+c", 0, api.ErrTwice},
	{"module A { export c, c; const c: int := 1; }", api.MName, "c", 1, api.ErrTwice},
	// Declarations come before exports, and both of them before those of later modules.
	{"module A { export d; const c: int := 1; const c: int := 2; }", api.DConst, "c", 1, api.ErrTwice},
	{"module A { export d; } module B { const c: int := 1; const c: int := 2; }", api.MName, "d", 0, api.ErrUnknown},
	{"const c: int := 1; const c: int := 2;", api.DConst, "c", 1, api.ErrTwice},
}

func TestWrongPrograms(t *testing.T) { // P7.1, P7.2
	for _, c := range wrongPrograms {
		p := read(t, c.text)
		node := nth(p, c.op, c.name, c.n)
		if l, at, e := Order(p); len(l) > 0 || at != node || e != c.e {
			t.Errorf("Order of %s: %v, %d, %d, want %d, %d", c.text, l, at, e, node, c.e)
		}
		if flat, at, e := Flat(p); flat != nil || at != node || e != c.e {
			t.Errorf("Flat of %s: %d, %d, want %d, %d", c.text, at, e, node, c.e)
		}
		_, e := Exports(p, "Z")
		_, f := Visible(p, "Z")
		_, g := Resolve(p, "Z", "1")
		_, h := Closure(p, "Z")
		_, i := Clients(p, "Z")
		if got := []api.Errno{e, f, g, h, i}; slices.ContainsFunc(got, func(e api.Errno) bool { return e != c.e }) {
			t.Errorf("%s: %v, want %d", c.text, got, c.e)
		}
	}
	expression, _, _ := parse.Expression("x + 1")
	for _, c := range []struct {
		p  api.Tree
		at int
		e  api.Errno
	}{{nil, 0, api.ErrEmpty}, {expression, 2, api.ErrKind}, {api.Tree{{Op: api.EVar, Text: "x"}, {Op: api.ENot}}, 1, api.ErrShape}} {
		if _, at, e := Order(c.p); at != c.at || e != c.e {
			t.Errorf("Order: %d, %d, want %d, %d", at, e, c.at, c.e)
		}
		if _, at, e := Flat(c.p); at != c.at || e != c.e {
			t.Errorf("Flat: %d, %d, want %d, %d", at, e, c.at, c.e)
		}
		if _, e := Names(c.p); e != c.e {
			t.Errorf("Names: %d, want %d", e, c.e)
		}
	}
	for _, s := range []string{"x", "!!x", "[x]"} {
		x, _, _ := parse.Expression(s)
		if _, e := Names(x); e != api.ErrKind {
			t.Errorf("Names of %s: %d", s, e)
		}
	}
	p := read(t, exampleText)
	_, e := Exports(p, "C")
	_, f := Visible(p, "C")
	_, g := Closure(p, "C")
	_, h := Clients(p, "")
	if got := []api.Errno{e, f, g, h}; !slices.Equal(got, []api.Errno{api.ErrUnknown, api.ErrUnknown, api.ErrUnknown, api.ErrUnknown}) {
		t.Errorf("without such a module: %v", got)
	}
	for s, want := range map[string]api.Errno{"module A { }": api.ErrKind, "module A { } module B { }": api.ErrKind, "": api.OK, "import A; export c; const c: int := 1;": api.OK} {
		if _, e := Names(read(t, s)); e != want {
			t.Errorf("Names of %q: %d, want %d", s, e, want)
		}
	}
}

func TestExports(t *testing.T) { // P7.1
	const text = "datatype D = X | Y(v: int) type S = x: int | true witness 0 class C { } const c: int := 1; function f(): int method m()"
	all := []Export{{"D", true}, {"X", true}, {"Y", true}, {"S", true}, {"C", true}, {"c", true}, {"f", true}, {"m", true}}
	for s, want := range map[string][]Export{
		"": all, "export;": nil, "export D;": {{"D", false}}, "export +D;": {{"D", true}, {"X", true}, {"Y", true}},
		"export m, +f, c, +S, C;": {{"S", true}, {"C", false}, {"c", false}, {"f", true}, {"m", false}},
	} {
		p := read(t, "module M { "+s+text+" } module N { import M; const n: int := 1; }")
		if l, e := Exports(p, "M"); !slices.Equal(l, want) || e != api.OK {
			t.Errorf("Exports with %q: %v, %d", s, l, e)
		}
		visible := []string{"n"}
		for _, x := range want {
			visible = append(visible, "M::"+x.Name)
			r, e := Resolve(p, "N", "M::"+x.Name)
			if e != api.OK || r.Revealed != x.Revealed || r.Full != "M::"+x.Name {
				t.Errorf("Resolve with %q: %v, %d", s, r, e)
			}
		}
		l, e := Visible(p, "N")
		var names []string
		for _, x := range l {
			names = append(names, x.Name)
		}
		if !slices.Equal(names, visible) || e != api.OK {
			t.Errorf("Visible with %q: %v, %d", s, names, e)
		}
		for _, x := range all {
			if _, e := Resolve(p, "N", "M::"+x.Name); (e == api.OK) != slices.ContainsFunc(want, func(y Export) bool { return y.Name == x.Name }) || e != api.OK && e != api.ErrExport {
				t.Errorf("Resolve of %s with %q: %d", x.Name, s, e)
			}
		}
	}
}

func TestClosure(t *testing.T) { // P7.2, P7.3
	p := read(t, "module A { import B; } module B { } module C { import A; import D; } module D refines E { } module E { } module F { }")
	for module, want := range map[string]string{"A": "A B", "B": "B", "C": "A B C D E", "D": "D E", "E": "E", "F": "F"} {
		c, e := Closure(p, module)
		var names []string
		for _, kid := range c[len(c)-1].Kids {
			names = append(names, c[kid].Text)
		}
		if strings.Join(names, " ") != want || e != api.OK {
			t.Errorf("Closure of %s: %v, %d", module, names, e)
		}
		if at, e := tree.Check(c); at != 0 || e != api.OK {
			t.Errorf("Closure of %s: %d, %d", module, at, e)
		}
	}
	for module, want := range map[string]string{"A": "C", "B": "A C", "C": "", "D": "C", "E": "C D", "F": ""} {
		if l, e := Clients(p, module); strings.Join(l, " ") != want || e != api.OK {
			t.Errorf("Clients of %s: %v, %d", module, l, e)
		}
	}
	whole, _ := Closure(p, "C")
	again, e := Closure(whole, "C")
	if e != api.OK || !slices.EqualFunc(whole, again, func(a, b api.Node) bool {
		return a.Op == b.Op && a.Text == b.Text && a.At == b.At && slices.Equal(a.Kids, b.Kids)
	}) {
		t.Errorf("Closure of a closure: %d", e)
	}
}
