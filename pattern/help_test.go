package pattern

import (
	"strings"
	"testing"

	"entail/api"
	"entail/parse"
	"entail/tree"
	"entail/value"
)

const declarations = "datatype D = Nil | Cons(head: int, tail: D) datatype Box<T> = Full(x: T) | Empty datatype Color = Red | Green | Blue type Nat = x: int | 0 <= x witness 0 type Nats = s: seq<Nat> | true witness [] " +
	"datatype Mix = Mix1(n: Nat, b: Box<Nat>, c: Color) | Mix2(r: real, s: Nats, v: bv2, k: Cell) | Mix3(b: bool, w: bv5, x: bv64) class Cell { var v: int; } type Round = s: seq<Round> | true witness [] type Sub = d: Box<bool> | true witness Empty " +
	"datatype Odd = Bad(r: Round) | Ill(x: Box) | Any(x: Nowhere) | Gone(d: Odd) datatype Same = S(x: int) | S(y: bool, z: int) | T datatype Grow<T> = G(x: Grow<seq<T>>) | Stop(x: T) datatype M::Q = M::P(x: M::Q) | M::O datatype Pair = P(a: bool, b: bool) datatype Flag = F(a: Color, b: Sub, c: bv1)"

// program returns the tree of a program.
func program(t *testing.T, s string) api.Tree {
	t.Helper()
	p, at, e := parse.Program(s)
	if e != api.OK {
		t.Fatalf("%s: %d at %d", s, e, at)
	}
	return p
}

// pat returns the tree of a pattern.
func pat(t *testing.T, s string) api.Tree {
	t.Helper()
	p, at, e := parse.Pattern(s)
	if e != api.OK {
		t.Fatalf("%s: %d at %d", s, e, at)
	}
	return p
}

// pats returns the trees of patterns that are separated by semicolons.
func pats(t *testing.T, s string) []api.Tree {
	t.Helper()
	var l []api.Tree
	for _, one := range strings.Split(s, ";") {
		if one != "" {
			l = append(l, pat(t, one))
		}
	}
	return l
}

// val returns the value of a string.
func val(t *testing.T, s string) api.Value {
	t.Helper()
	v, at, e := value.ParseText(s)
	if e != api.OK {
		t.Fatalf("%s: %d at %d", s, e, at)
	}
	return v
}

// text returns the text of a tree, or nothing for no tree.
func text(x api.Tree) string {
	s, _ := tree.Print(x)
	return s
}

// say returns the string of a value.
func say(v api.Value) string {
	s, _ := value.Text(v)
	return s
}

func times(s string, n int) string { return strings.Repeat(s, n) }
