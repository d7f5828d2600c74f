package calls

import (
	"slices"
	"strconv"
	"strings"
	"testing"

	"entail/api"
	"entail/parse"
	"entail/tree"
)

// read returns the tree of a program.
func read(t *testing.T, s string) api.Tree {
	t.Helper()
	p, at, e := parse.Program(s)
	if e != api.OK {
		t.Fatalf("%s: %d at %d", s, e, at)
	}
	return p
}

const example = "function M::f(n: int): int { if n <= 0 then 0 else M::g(n - 1) } function M::g(n: int): int { M::f(n) + M::h() } function M::h(): int { 1 } lemma method M::l(n: int, s: seq<bool>) ensures M::f(n) == 0 { } method M::m(n: int, k: int) { var i: int := 0; while i < n && 0 < k { } }"

// busy is a program in which calls stand in all places.
const busy = "datatype D = Nil | Cons(head: int, tail: D) type S = x: int | f1(x) == 0 witness f1(1) const c: int := f1(2); class C { var v: int; } function f1(x: int): int { x } function f2(x: int): int { x } function f3(x: int): int { x } method m1(x: int) returns (y: int) { } method m2(x: int) { } lemma method l1(x: int) { } " +
	"function all(x: int): int requires f3(x) == 0 reads set y: int | f2(y) == 0 :: o ensures f1(all(x)) == f3(1) decreases f2(x), c { match x { case 0 => f3(x) case _ => if (forall z: int {f2(z)} :: f1(z) == 0) then c else gone(f4(3)) } } function f4(x: int): int " +
	"method big(x: int) returns (y: int) requires f4(x) == 0 modifies o ensures f3(y) == 0 decreases big2(x) { call m2(f1(1)); ghost var g: int := f2(x); if x == 0 { y := call m1(f3(x)); } else { while f4(x) == 0 invariant f1(x) == 0 decreases f2(x) { call big(1); } } assert x == 1 by { call l1(1); } calc { x; == { call l1(f4(1)); } x; } forall z: int | f1(z) == 0 ensures f2(z) == 0 { call m2(z); } call none(f3(3)); print f4(1); reveal f1; } " +
	"method noBody() function big2(x: int): int { m1(x) + f1(f2(f3(x))) } method turned() { f1 := call f1(); }"

func TestCalls(t *testing.T) { // P11.1
	for _, c := range []struct{ program, name, calls, reached string }{
		{example, "M::f", "M::g", "M::f M::g M::h"}, {example, "M::g", "M::f M::h", "M::f M::g M::h"}, {example, "M::h", "", "M::h"}, {example, "M::l", "M::f", "M::f M::g M::h M::l"}, {example, "M::m", "", "M::m"},
		{busy, "f1", "", "f1"}, {busy, "all", "f3 f2 all f1 f4", "all f1 f2 f3 f4"}, {busy, "big", "f4 f3 big2 f1 m2 f2 m1 big l1", "big big2 f1 f2 f3 f4 l1 m1 m2"}, {busy, "noBody", "", "noBody"}, {busy, "big2", "m1 f3 f2 f1", "big2 f1 f2 f3 m1"}, {busy, "turned", "f1", "f1 turned"},
		// Of two callables with one name the first one is meant; names are in the order of their bytes.
		{"function g(): int { 1 } function f(): int { g() + B::f() } function g(): int { f() } method f() { } function B::f(): int { 1 }", "f", "g B::f", "B::f f g"}, {"function g(): int { 1 } function f(): int { g() } function g(): int { f() }", "g", "", "g"},
		{"function a(): int { b() } function b(): int { a() + b() }", "a", "b", "a b"}, {"function a(): int { b() } function b(): int { a() + b() }", "b", "a b", "a b"}, {"function a10(): int { a9() } function a9(): int { aA() } function aA(): int { a10() } function a(): int { a10() }", "a", "a10", "a a10 a9 aA"},
	} {
		p := read(t, c.program)
		l, e := Calls(p, c.name)
		if strings.Join(l, " ") != c.calls || e != api.OK {
			t.Errorf("Calls of %s: %v, %d", c.name, l, e)
		}
		l, e = Reached(p, c.name)
		if strings.Join(l, " ") != c.reached || e != api.OK {
			t.Errorf("Reached of %s: %v, %d", c.name, l, e)
		}
	}
}

// listed returns components as a text.
func listed(l [][]string) string {
	var out []string
	for _, names := range l {
		out = append(out, strings.Join(names, " "))
	}
	return strings.Join(out, "; ")
}

func TestComponents(t *testing.T) { // P11.1
	for s, want := range map[string]string{
		"": "", "const c: int := 1;": "", example: "M::h; M::f M::g; M::l; M::m", busy: "f1; f2; f3; m1; m2; l1; f4; all; noBody; big2; big; turned",
		"function a(): int { b() } function b(): int { c() } function c(): int { 1 }":                                                                            "c; b; a",
		"function a(): int { b() } function b(): int { a() } function c(): int { d() } function d(): int { c() }":                                                "a b; c d",
		"function a(): int { d() } function b(): int { 1 } function c(): int { b() + e() } function d(): int { a() + c() } method e() function f(): int { a() }": "b; e; c; a d; f",
		"function a(): int { a() } function a(): int { b() } function b(): int { a() }":                                                                          "a; b",
		// The first callable of the program that can be taken is asked anew each time.
		"function a(): int { c() } function b(): int { 1 } function c(): int { 2 } function d(): int { 3 }": "b; c; a; d",
	} {
		l, e := Components(read(t, s))
		if listed(l) != want || e != api.OK {
			t.Errorf("Components of %s: %s, %d, want %s", s, listed(l), e, want)
		}
	}
}

func TestTogether(t *testing.T) { // P11.1
	p := read(t, example+" function M::s(n: int): int { M::s(n) } function M::t(n: int): int { M::s(n) }")
	for pair, want := range map[string]bool{"f g": true, "g f": true, "f f": true, "g g": true, "h h": false, "f h": false, "h f": false, "l f": false, "s s": true, "t s": false, "s t": false, "t t": false, "l l": false, "m m": false} {
		names := strings.Fields(pair)
		is, e := Together(p, "M::"+names[0], "M::"+names[1])
		if is != want || e != api.OK {
			t.Errorf("Together of %s: %v, %d", pair, is, e)
		}
		if names[0] != names[1] {
			continue
		}
		if is, e := Recursive(p, "M::"+names[0]); is != want || e != api.OK {
			t.Errorf("Recursive of %s: %v, %d", names[0], is, e)
		}
	}
}

// asks are the functions with the name of a declaration, as functions that return an error and whether there is something
// else.
func asks() map[string]func(p api.Tree, name string) (api.Errno, bool) {
	some := func(l []string, e api.Errno) (api.Errno, bool) { return e, len(l) > 0 }
	truth := func(is bool, e api.Errno) (api.Errno, bool) { return e, is }
	return map[string]func(p api.Tree, name string) (api.Errno, bool){
		"Calls":     func(p api.Tree, name string) (api.Errno, bool) { return some(Calls(p, name)) },
		"Reached":   func(p api.Tree, name string) (api.Errno, bool) { return some(Reached(p, name)) },
		"Recursive": func(p api.Tree, name string) (api.Errno, bool) { return truth(Recursive(p, name)) },
		"Together":  func(p api.Tree, name string) (api.Errno, bool) { return truth(Together(p, name, "gone")) },
		"second":    func(p api.Tree, name string) (api.Errno, bool) { return truth(Together(p, "f", name)) },
		"Induction": func(p api.Tree, name string) (api.Errno, bool) { return some(Induction(p, name)) },
		"Measure": func(p api.Tree, name string) (api.Errno, bool) {
			l, is, e := Measure(p, name)
			return e, is || len(l) > 0
		},
	}
}

func TestErrors(t *testing.T) { // P11.1, P11.2
	p := read(t, "datatype D = Nil type S = x: int | true witness 0 class C { } const c: int := 1; function f(x: int): int { f(x) } method m(x: int) decreases x { }")
	two := read(t, "module A { function f(): int { f() } } module B { }")
	named := read(t, "module A { function f(): int { f() } }")
	expression := api.Tree{{Op: api.EInt, Text: "1"}}
	for _, c := range []struct {
		p    api.Tree
		name string
		want api.Errno
	}{
		{nil, "f", api.ErrEmpty}, {api.Tree{{Op: 500}}, "f", api.ErrKind}, {expression, "f", api.ErrKind}, {two, "f", api.ErrKind}, {named, "f", api.ErrKind}, {p, "x", api.ErrUnknown}, {p, "", api.ErrUnknown}, {p, "M::f", api.ErrUnknown}, {p, "Nil", api.ErrUnknown}, {p, "D", api.ErrKind}, {p, "S", api.ErrKind}, {p, "C", api.ErrKind}, {p, "c", api.ErrKind},
	} {
		for name, ask := range asks() {
			if name == "second" && c.p == nil {
				continue
			}
			if e, more := ask(c.p, c.name); e != c.want || more {
				t.Errorf("%s of %s: %d, %v, want %d", name, c.name, e, more, c.want)
			}
		}
		l, e := Components(c.p)
		if want := c.want; want != api.ErrUnknown && (want != api.ErrKind || len(c.p) != len(p)) && (e != want || l != nil) {
			t.Errorf("Components: %v, %d, want %d", l, e, want)
		}
		measure, is, e := LoopMeasure(c.p, -1)
		if want := c.want; len(c.p) != len(p) && (e != want || is || measure != nil) {
			t.Errorf("LoopMeasure: %v, %d, want %d", measure, e, want)
		}
	}
	for _, name := range []string{"f", "m"} {
		if l, e := Induction(p, name); l != nil || e != api.ErrKind {
			t.Errorf("Induction of no lemma: %v, %d", l, e)
		}
	}
	// A module without a name may have imports and exports.
	odd := api.Tree{{Op: api.MImport, Text: "A"}, {Op: api.MName, Text: "f"}, {Op: api.MExport, Kids: []int{1}}, {Op: api.DMethod, Text: "f"}, {Op: api.MModule, Kids: []int{0, 2, 3}}, {Op: api.MProgram, Kids: []int{4}}}
	if l, e := Reached(odd, "f"); !slices.Equal(l, []string{"f"}) || e != api.OK {
		t.Errorf("Reached beside an import: %v, %d", l, e)
	}
	if _, e := Calls(odd, "A"); e != api.ErrUnknown {
		t.Errorf("Calls of an import: %d", e)
	}
}

// printed returns the texts of expressions.
func printed(l []api.Tree) string {
	var out []string
	for _, x := range l {
		s, _ := tree.Print(x)
		out = append(out, s)
	}
	return strings.Join(out, ", ")
}

func TestMeasure(t *testing.T) { // P11.2
	p := read(t, "function f(x: int, ghost y: seq<int>, z: bool): int requires true ensures true { while1(x) } function g(x: int): int decreases x + 1, #[x], g(0) function h(): int lemma method l<T>(a: T, b: int) returns (c: int) decreases b { } lemma method k<T>(a: T, ghost b: int) returns (c: int) { while true decreases a { } } method m(x: int) { }")
	for name, want := range map[string]string{"f": "x, y, z", "g": "x + 1, #[x], g(0)!", "h": "", "l": "b!", "k": "a, b", "m": "x"} {
		l, is, e := Measure(p, name)
		if printed(l) != strings.TrimSuffix(want, "!") || is != strings.HasSuffix(want, "!") || e != api.OK {
			t.Errorf("Measure of %s: %s, %v, %d", name, printed(l), is, e)
		}
		for _, x := range l {
			if !is && (len(x) != 1 || x[0].Op != api.EVar || x[0].At != 0) {
				t.Errorf("Measure of %s: %v", name, x)
			}
		}
	}
}

func TestLoopMeasure(t *testing.T) { // P11.2
	for condition, want := range map[string]string{
		"i < n": "n - i", "i <= n": "n - i", "i + 1 < n * 2": "n * 2 - (i + 1)", "i < n && 0 < k": "n - i", "b && i < n": "n - i", "b && c": "", "(b && c) && (d && i <= n)": "n - i", "(b && 0 < i) && 0 < n": "i - 0", "i == n": "", "!(i < n)": "", "i < n || b": "", "true": "", "i < n ==> b": "", "b": "", "forall j: int :: j < i": "",
	} {
		p := read(t, "method m(i: int, n: int) { if true { while "+condition+" invariant true { } } }")
		for _, given := range []string{"", "decreases n, i * 2 "} {
			if given != "" {
				p = read(t, "method m(i: int, n: int) decreases 7 { while "+condition+" invariant true "+given+"{ while true decreases 8 { } } }")
				want = "n, i * 2"
			}
			found := 0
			for node, n := range p {
				if n.Op != api.SWhile {
					if l, is, e := LoopMeasure(p, node); l != nil || is || e != api.ErrKind {
						t.Errorf("LoopMeasure of no loop: %v, %d", l, e)
					}
					continue
				}
				l, is, e := LoopMeasure(p, node)
				wanted := want
				if given != "" && found == 0 {
					wanted = "8"
				}
				found++
				if printed(l) != wanted || is != (given != "") || e != api.OK {
					t.Errorf("LoopMeasure of %s %s: %s, %v, %d, want %s", condition, given, printed(l), is, e, wanted)
				}
			}
		}
		for _, node := range []int{-1, len(p), 5000} {
			if l, is, e := LoopMeasure(p, node); l != nil || is || e != api.ErrUnknown {
				t.Errorf("LoopMeasure of the node %d: %v, %d", node, l, e)
			}
		}
	}
}

func TestInduction(t *testing.T) { // P11.2
	const functions = "datatype L = Nil | Cons(v: int, r: L) datatype B<T> = Full(x: T) type Nat = x: int | 0 <= x witness 0 type Ls = l: L | true witness Nil class C { } function f(n: int, l: L): int { f(n, l) } function g(x: int): int { h(x) } function h(x: int): int { g(x) } function p(x: int): int { x } method r(x: int) returns (y: int) { y := call r(x); } "
	for s, want := range map[string]string{
		"lemma method m(n: int, s: seq<bool>) ensures g(n) == 0":                             "n",
		"lemma method m(n: int, s: seq<bool>) ensures g(#s) == n":                            "s",
		"lemma method m(n: int, s: seq<bool>, b: bv8) ensures g(#s) == h((b as int) + n)":    "n s b",
		"lemma method m(b: bv8, ghost n: int) requires g(n) == 0 ensures h((b as int)) == 0": "b n",
		"lemma method m(n: int, l: L) ensures g(n) == f(1, l)":                               "n l",
		"lemma method m(n: int, l: L) ensures g(n) == 0":                                     "n",
		"lemma method m(n: int, l: L) ensures p(n) == 0":                                     "l",
		"lemma method m(n: int, k: L, l: L) ensures n == 0":                                  "k",
		"lemma method m(n: int, k: seq<L>, ghost l: B<L>) ensures n == 0":                    "l",
		"lemma method m(n: int, s: seq<bool>)":                                               "",
		"lemma method m()":                                                                   "",
		"lemma method m(n: Nat) ensures g(n) == 0":                                           "",
		"lemma method m(n: Nat, l: Ls, k: L) ensures g(n) == f(n, l)":                        "k",
		"lemma method m(b: bool, r: real, s: set<int>, m: map<int,int>, c: C, a: array<int>) ensures f2(b, r, s, m, c, a) == f(#s + #m, if b then Nil else Nil)": "",
		// Free variables of arguments: not those that a quantifier in the argument binds, but those that one around it does.
		"lemma method m(n: int, k: int) ensures g(if (forall n: int :: n == k) then 1 else 2) == 0": "k",
		"lemma method m(n: int, k: int) ensures forall n: int :: g(n) == k":                         "n",
		"lemma method m(n: int, k: int) ensures forall j: int :: g(j + k) == n":                     "k",
		"lemma method m(n: int, k: int) ensures p(g(n)) == p(k)":                                    "n",
		"lemma method m(n: int, k: int) ensures g(p(n)) == k":                                       "n",
		// Clauses of the lemma alone, and functions alone.
		"lemma method m(n: int, k: int) requires k == 0 decreases g(n) { assert g(n) == 0; forall j: int | true ensures g(n) == 0 { } }": "",
		"lemma method m(n: int) ensures r(n) == 0":       "",
		"lemma method m(n: int) ensures gone(n) == 0":    "",
		"ghost lemma method m(n: int) ensures g(n) == 0": "n",
		// Type parameters are no datatypes.
		"lemma method m<L>(l: L, k: B<L>)":                     "k",
		"lemma method m<L>(l: L, k: int) ensures f(k, l) == 0": "k",
	} {
		p := read(t, functions+s)
		l, e := Induction(p, "m")
		if strings.Join(l, " ") != want || e != api.OK {
			t.Errorf("Induction of %s: %v, %d, want %s", s, l, e, want)
		}
	}
}

// chain is a program of n methods, each of which calls the next one, and the last one the first one if it is closed.
func chain(n int, closed bool) string {
	var b strings.Builder
	for i := range n {
		next := i + 1
		if next == n && closed {
			next = 0
		}
		b.WriteString("method m" + strconv.Itoa(i) + "() { call m" + strconv.Itoa(next) + "(); } ")
	}
	return b.String()
}

func TestManyCallables(t *testing.T) { // P11.1
	for _, closed := range []bool{false, true} {
		p := read(t, chain(999, closed))
		l, e := Components(p)
		reached, f := Reached(p, "m1")
		if e != api.OK || f != api.OK || closed && (len(l) != 1 || len(reached) != 999) || !closed && (len(l) != 999 || l[0][0] != "m998" || len(reached) != 998) {
			t.Errorf("Components of a chain: %d, %d, %d", len(l), e, len(reached))
		}
	}
	p := read(t, strings.Repeat("method m() ", 3998))
	if l, e := Components(p); listed(l) != "m" || e != api.OK {
		t.Errorf("Components of one name: %s, %d", listed(l), e)
	}
	var b strings.Builder
	for i := range 3998 {
		b.WriteString("method m" + strconv.Itoa(i) + "() ")
	}
	if l, e := Components(read(t, b.String())); len(l) != 3998 || e != api.OK {
		t.Errorf("Components of many methods: %d, %d", len(l), e)
	}
}
