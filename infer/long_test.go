package infer

import (
	"math/rand"
	"strings"
	"testing"

	"entail/api"
	"entail/parse"
	"entail/tree"
)

// mores is a call of more around an expression, so many times; each one makes a type of n bytes one of 2 * n + 6.
func mores(n int, s string) string {
	return strings.Repeat("more(", n) + s + strings.Repeat(")", n)
}

// sized is a type of so many bytes, of at least 50.
func sized(n int) string {
	rest := n - len("int")
	heads := ""
	if rest%2 == 1 {
		heads, rest = "seq<", rest-5
	}
	for rest%10 != 0 {
		heads, rest = heads+"List<", rest-6
	}
	heads += strings.Repeat("multiset<", rest/10)
	return heads + "int" + strings.Repeat(">", strings.Count(heads, "<"))
}

const longs = declared + "function two<T>(x: T, y: int): int function wide<T>(x: Wide<T>): int function any<T>(x: T): bool function fits<T>(x: Pair<T, Nat>): bool function all<T>(x: Pair<T, Abcdefghijklmnopqrst>): bool type Abcdefghijklmnopqrst = x: int | true witness 0 "

func TestLong(t *testing.T) { // P8.2
	p := flat(t, longs)
	for n := 50; n <= 400; n++ {
		if s := sized(n); len(s) != n {
			t.Fatalf("%s has %d bytes", s, len(s))
		}
	}
	vars := append([]api.Bound{{Name: "e", Sort: sized(400)}, {Name: "g", Sort: sized(197)}, {Name: "h", Sort: sized(198)}, {Name: "z", Sort: deepType(60)}, {Name: "q", Sort: deepType(59)}, {Name: "o", Sort: sized(390)}, {Name: "d", Sort: "Wide<" + sized(197) + ">"}, {Name: "k2", Sort: "Wide<" + sized(198) + ">"}}, given...)
	for _, s := range []string{mores(5, "i"), "e", "#more(g)", "[q]", "z", "#z", "any(e)", "any(z)", "#[q]", "d.y", "k2.y", "d.wide == more(g)", "match k2 { case V => 1 case W(_, x) => x }", "match d { case W(x, _) => #x case V => 1 }"} {
		_, e := TypeOf(p, expr(t, s), vars)
		// The type of a pattern, also of one without a name, may be too long.
		if long := strings.HasPrefix(s, "match k2"); long && e != api.ErrLong || !long && e != api.OK {
			t.Errorf("%s: %d", s, e)
		}
	}
	checkProblems(t, p, vars, []problem{
		// At the end, and at the node above.
		{mores(6, "i"), 6, api.ErrLong}, {mores(7, "i"), 7, api.ErrLong}, {"#" + mores(6, "i"), 7, api.ErrLong}, {"#more(h)", 2, api.ErrLong}, {"[z]", 1, api.ErrLong}, {"#[z]", 2, api.ErrLong}, {"more(z)", 1, api.ErrLong}, {"#[e]", 2, api.ErrLong}, {"k2.wide", 1, api.ErrLong}, {"#k2.wide", 2, api.ErrLong},
		{"[z] == [z]", 4, api.ErrLong}, {"1 + [z]", 3, api.ErrLong}, {"nope([z])", 2, api.ErrLong}, {"len([z], [z])", 4, api.ErrLong}, {"[z].v", 2, api.ErrLong}, {"if b then 1 else #[z]", 4, api.ErrLong}, {"if [z] then 1 else nope", 3, api.ErrUnknown}, {"[z] in b", 3, api.ErrLong},
		{"forall x: int {[z]} :: b", 6, api.ErrLong}, {"match i { case x => [z] }", 5, api.ErrLong}, {"match [z] { case Nope => 1 }", 2, api.ErrUnknown}, {"match [z] { case Nil => 1 }", 2, api.ErrLong}, {"match [z] { case x => 1 }", 5, api.ErrLong}, {"match [z] { case 1 => 1 }", 3, api.ErrLong},
		{"match k2 { case W(x, _) => 1 case V => 2 }", 1, api.ErrLong}, {"match k2 { case W(x, _) => #x case V => 2 }", 5, api.ErrLong}, {"match k2 { case V => 2 case W(_, Nope) => 2 }", 5, api.ErrUnknown},
		// Types that get long later: at the next node, or at the end.
		{"var x := []; var y := " + mores(5, "x") + "; x == [1]", 11, api.ErrLong}, {"var x := []; [" + mores(5, "x") + "] == [] && x == [1]", 6, api.ErrLong}, {"var x := []; any(" + mores(5, "x") + ") && x == [1] && -b == b", 14, api.ErrType}, {"var x := []; any(" + mores(5, "x") + ") && x == [1] && [] == []", 6, api.ErrLong},
		{"var x := []; any(" + mores(5, "x") + ") && any(Ghost(i)) && x == [1]", 6, api.ErrLong},
		// A parameter's type is long before the types are found to differ.
		{"two(Cons(h, Nil), b)", 4, api.ErrType}, {"wide(more(h))", 2, api.ErrLong}, {"both(o, 1)", 2, api.ErrType}, {"W(more(h), b)", 3, api.ErrLong}, {"W(more(g), b)", 3, api.ErrType},
		// What flows into a type that is longer than its base.
		{"all(Two(o, 1))", 2, api.ErrLong},
	})
	if _, e := TypeOf(p, expr(t, "fits(Two(o, 1))"), vars); e != api.OK {
		t.Errorf("a type of 400 bytes: %d", e)
	}
	vars[0].Sort = sized(370)
	for s, want := range map[string]api.Errno{"fits(Two(e, 1))": api.OK, "all(Two(e, 1))": api.OK, "all(One(e))": api.OK} {
		if _, e := TypeOf(p, expr(t, s), vars); e != want {
			t.Errorf("%s: %d, want %d", s, e, want)
		}
	}
	vars[0].Sort = sized(391)
	checkProblems(t, p, vars, []problem{{"Two(e, 1)", 2, api.ErrLong}})
	vars[0].Sort = sized(390)
	if _, e := TypeOf(p, expr(t, "Two(e, 1)"), vars); e != api.OK {
		t.Errorf("a type of 400 bytes: %d", e)
	}
	vars[0].Sort = sized(375)
	checkProblems(t, p, vars, []problem{{"all(Two(e, 1))", 2, api.ErrLong}, {"all(One(e)) && -b == b", 4, api.ErrType}, {"any(Ghost(1)) && all(One(e))", 1, api.ErrOpen}})
	if _, e := TypeOf(p, expr(t, "fits(Two(e, 1))"), vars); e != api.OK {
		t.Errorf("a type of 384 bytes: %d", e)
	}
}

func TestLongInPrograms(t *testing.T) { // P8.1
	for _, c := range []place{
		{"function kk(x: " + sized(401) + "): int { y }", api.DParam, "x", 0, api.ErrLong}, {"type S = x: map<R, R> | true witness map[] type R = x: " + sized(200) + " | true witness []", api.TMap, "", 0, api.ErrLong},
		{"method kk(x: Wide<" + sized(198) + ">) { match x { case W(y, _) => { } case V => { } } }", api.PVar, "y", 0, api.ErrLong}, {"method kk(x: Wide<" + sized(198) + ">) { match x { case V => { } case W(_, y) => { y := z; } } }", api.PWild, "", 0, api.ErrLong},
		{"method kk(x: " + sized(198) + ") { call m2(more(x)); } method m2<T>(x: T)", api.ECall, "more", 0, api.ErrLong}, {"method kk(x: " + sized(198) + ") { call m2(z, more(x)); } method m2<T>(x: T)", api.EVar, "z", 0, api.ErrUnknown},
	} {
		p := flat(t, longs+c.text)
		from := nth(p, api.DSubset, "Abcdefghijklmnopqrst", 0) + 1
		node := from + nth(p[from:], c.op, c.name, c.n)
		if c.op == api.DParam {
			node-- // its type
		}
		checkWrong(t, p, c.text, node, c.e)
	}
}

// TestFast infers the types of programs whose types would get very long.
func TestFast(t *testing.T) { // P1
	doubling := "function f(): int { g(S0) } "
	for i := range 60 {
		doubling += "type S" + itoa(i) + " = x: map<S" + itoa(i+1) + ", S" + itoa(i+1) + "> | true witness map[] "
	}
	for _, c := range []struct {
		text string
		e    api.Errno
	}{
		{strings.Replace(doubling, "g(S0)", "g(map[])", 1) + "type S60 = x: int | true witness 0 function g(x: S0): int", api.ErrLong},
		{strings.Replace(doubling, "g(S0)", "#[g()]", 1) + "type S60 = x: int | true witness 0 function g(): S0", api.ErrLong},
		{strings.Replace(doubling, "g(S0)", "(match h() { case C(x, y) => 1 })", 1) + "type S60 = x: int | true witness 0 function h(): D<int> datatype D<T> = C(x: map<S0, T>, y: T)", api.ErrLong},
	} {
		if _, _, e := Types(flat(t, c.text)); e != c.e {
			t.Errorf("%.60s: %d, want %d", c.text, e, c.e)
		}
	}
	// Each variable is bound to a map of the next one twice.
	left, right := "", ""
	for i := range 30 {
		left += ", id(x" + itoa(i) + ")"
		right += ", map[x" + itoa(i+1) + " := x" + itoa(i+1) + "]"
	}
	text := "[" + left[2:] + "] == [" + right[2:] + "]"
	for i := range 31 {
		text = "var x" + itoa(30-i) + " := [][0]; " + text
	}
	if _, e := TypeOf(flat(t, longs), expr(t, text), nil); e == api.OK {
		t.Error("a type of many bytes")
	}
}

func itoa(n int) string {
	if n < 10 {
		return string(rune('0' + n))
	}
	return itoa(n/10) + itoa(n%10)
}

// TestDamaged changes nodes of programs: whatever is asked of them, there is an answer.
func TestDamaged(t *testing.T) { // P1
	r := rand.New(rand.NewSource(11))
	texts := []string{example, declared, inMethod(wrongStatements[3].text), inMethod("match l { case Cons(h, _) => { w := h; } case _ => { } } calc { i; == { x := 1; } 1; } forall k: Nat | b ensures b { x := k; } u := new Cell(1, 2); v := new array<Nat>(1, 2); z := call q(b);")}
	words := []string{"", "x", "n", "l", "List", "Cons", "Nil", "Nat", "Cell", "T", "len", "q", "==", "1", "M::c", "S"}
	errors := map[api.Errno]bool{}
	for range 6000 {
		p, _, _ := parse.Program(texts[r.Intn(len(texts))])
		for range 1 + r.Intn(3) {
			n := &p[r.Intn(len(p))]
			switch r.Intn(6) {
			case 0:
				n.Op = r.Intn(api.Ops+4) - 2
			case 1:
				n.Kids = append(n.Kids, r.Intn(len(p)+2)-1)
			default:
				n.Text = words[r.Intn(len(words))]
			}
		}
		l, at, e := Types(p)
		errors[e] = true
		if _, f := tree.Check(p); f != api.OK && (e != f || at != 0) || (e == api.OK) != (len(l) == len(p)) {
			t.Fatalf("%d at %d, %d types", e, at, len(l))
		}
		_, _, f := Instances(p)
		_, _, g := Flows(p)
		_, h := Context(p, r.Intn(len(p)))
		if f != e || g != e || h != e {
			t.Fatalf("%d, %d, %d, %d", e, f, g, h)
		}
		for i, n := range p {
			if class, f := tree.Class(n.Op); f != api.OK || class != tree.Expression {
				continue
			}
			if part, f := tree.Sub(p, i); f == api.OK && r.Intn(20) == 0 {
				TypeOf(p, part, given)
			}
		}
	}
	for _, e := range []api.Errno{api.OK, api.ErrUnknown, api.ErrType, api.ErrArgs, api.ErrTwice, api.ErrKind} {
		if !errors[e] {
			t.Errorf("no program with the error %d", e)
		}
	}
}
