package scope

import (
	"slices"
	"strings"
	"testing"

	"entail/api"
	"entail/parse"
	"entail/tree"
)

// texts are programs that have all binders, with names that hide others.
var texts = []string{
	"function f<T>(x: int, ghost y: seq<T>): int requires x == z reads x ensures x < y decreases x { var x := x; x + y }",
	"function f(x: int): int { match x { case C(y, D(z, _)) => y + z + w case y => match y { case x => x } } }",
	"function f(s: set<int>): bool { forall x: int, y: int {x, y} {z} :: exists x: bool :: x && y in s && (set z: int | z < y :: z + x) == s }",
	"method m(a: int, ghost b: int) returns (c: int, d: int) requires a < c modifies b modifies c ensures c == d decreases a, c { var a: int := a; ghost var e: int := e; e := a; { var f: int; f := e; } f := c; }",
	"method m(a: int) { if a < b { var b: int := b; b := 1; } else if b < a { b := 2; } while a < b invariant b < c decreases b modifies c { var c: int; c := c; } if { case a < b => { var d: int; d := d; } case d < a => { } } }",
	"method m(x: D) { match x { case C(x, y) => { x := y; y := z; } case z => { z := x; } } z := x; }",
	"method m(s: set<int>) { forall x: int, y: int | x < y ensures x in s { var z: int := x; assert z < y by { z := y; } } x :| x < y; x, y := call m(x); x := new C(x); y := new array<int>(x, y); }",
	"method m(x: int) { calc { x; == { var y: int := x; y := y; } y; <= x; } assert l: x < y; assume forall y: int :: y == x; print old(x); x := *; }",
	"type S = x: int | x < y witness x const c: int := M::c + d; class C { var x: int; ghost var y: int; } datatype D<T> = A(x: T) | B",
	"module M { import N; export f, +D; function f(x: int): int { x + y } } module N { datatype D = A(x: int) }",
}

// programs returns the trees of the texts.
func programs(t *testing.T) []api.Tree {
	var out []api.Tree
	for _, s := range texts {
		p, at, e := parse.Program(s)
		if e != api.OK {
			t.Fatalf("%q: %d at %q", s, e, s[at:])
		}
		out = append(out, p)
	}
	return out
}

// TestVisit compares what is in scope with tree.Bound.
func TestVisit(t *testing.T) {
	for i, p := range programs(t) {
		next := 0
		for node, around := range Visit(p) {
			if node != next {
				t.Fatalf("%d: node %d, want %d", i, node, next)
			}
			next++
			var names []string
			for _, declared := range around {
				if Owner(p, around, p[declared].Text) == declared {
					names = append(names, p[declared].Text)
				}
			}
			if want, e := tree.Bound(p, node); e != api.OK || !slices.Equal(names, want) {
				t.Errorf("%d: at the node %d there are %v, want %v", i, node, names, want)
			}
		}
		if next != len(p) {
			t.Errorf("%d: %d nodes of %d", i, next, len(p))
		}
	}
}

// TestOwners compares the variables without an owner with tree.Free.
func TestOwners(t *testing.T) {
	for i, p := range programs(t) {
		owners := Owners(p)
		var free []string
		for node, owner := range owners {
			n := p[node]
			switch n.Op {
			case api.EVar, api.SNew, api.SNewArray, api.SChoose:
				if owner >= 0 && p[owner].Text != n.Text {
					t.Errorf("%d: the owner of %s is %s", i, n.Text, p[owner].Text)
				}
				if owner < 0 && !strings.Contains(n.Text, "::") && !slices.Contains(free, n.Text) {
					free = append(free, n.Text)
				}
			default:
				if owner != -1 {
					t.Errorf("%d: the node %d has the owner %d", i, node, owner)
				}
			}
		}
		if want, e := tree.Free(p); e != api.OK || !slices.Equal(free, want) {
			t.Errorf("%d: free are %v, want %v", i, free, want)
		}
	}
}

func TestDeclared(t *testing.T) {
	for i, p := range programs(t) {
		for node := range p {
			for _, declared := range Declared(p, node) {
				if declared > node {
					t.Errorf("%d: the node %d declares %d", i, node, declared)
				}
			}
		}
	}
	p := programs(t)[3]
	var names []string
	for node, n := range p {
		if n.Op == api.DMethod {
			for _, declared := range Declared(p, node) {
				names = append(names, p[declared].Text)
			}
		}
	}
	if want := []string{"a", "b", "c", "d"}; !slices.Equal(names, want) {
		t.Errorf("a method declares %v, want %v", names, want)
	}
}

func TestStops(t *testing.T) {
	p := programs(t)[0]
	count := 0
	for range Visit(p) {
		count++
		if count == 5 {
			break
		}
	}
	for range Visit(nil) {
		t.Error("a node of nothing")
	}
	if count != 5 || len(Owners(nil)) != 0 {
		t.Errorf("%d nodes", count)
	}
}
