package types

import (
	"slices"
	"strconv"
	"strings"
	"testing"

	"entail/api"
	"entail/parse"
	"entail/tree"
)

// notFlat are trees that are no flat programs, with their errors.
func notFlat(t *testing.T) map[api.Errno][]api.Tree {
	expression, _, _ := parse.Expression("x")
	return map[api.Errno][]api.Tree{
		api.ErrEmpty: {nil},
		api.ErrKind:  {expression, flat(t, "module M { }"), flat(t, "module M { } module N { }"), flat(t, "import A;"), flat(t, "export;"), flat(t, "import A; const c: int := 1;")},
		api.ErrForm:  {{{Op: api.MModule}, {Op: api.TInt}, {Op: api.MProgram, Kids: []int{0, 1}}}},
	}
}

func TestProgramErrors(t *testing.T) { // P5.2, P5.3
	for want, list := range notFlat(t) {
		for _, p := range list {
			_, a := Decl(p, "x")
			b := Check(p, "x", []string{"x"})
			_, c := Base(p, "x")
			_, d := Constructors(p, "x")
			_, e := Fields(p, "x")
			_, _, f := Member(p, "x", "x")
			_, g := Signature(p, "x")
			_, h := Inhabited(p, "x", []string{"x"})
			_, i := Default(p, "x")
			_, j := Finite(p, "x")
			if got := []api.Errno{a, b, c, d, e, f, g, h, i, j}; slices.ContainsFunc(got, func(e api.Errno) bool { return e != want }) {
				t.Errorf("%d nodes: %v, want %d", len(p), got, want)
			}
		}
	}
}

func TestDecl(t *testing.T) { // P5.2
	p := flat(t, "datatype D<T> = A | B(f: T) class C { var f: int; } const c: int := 1; function f(x: int): int method m() type S = x: int | true witness 0 datatype A = D class D { }")
	for name, want := range map[string]int{"D": api.DDatatype, "A": api.DCons, "B": api.DCons, "C": api.DClass, "c": api.DConst, "f": api.DFunction, "m": api.DMethod, "S": api.DSubset} {
		node, e := Decl(p, name)
		if e != api.OK || p[node].Op != want || p[node].Text != name {
			t.Errorf("Decl(%q): %d, %d", name, node, e)
		}
		if first := slices.IndexFunc(p, func(n api.Node) bool { return n.Text == name && n.Op == want }); first != node {
			t.Errorf("Decl(%q): %d, want %d", name, node, first)
		}
	}
	for _, name := range []string{"", "T", "x", "E", "M::D", "int", "0", "1"} {
		if node, e := Decl(p, name); node != 0 || e != api.ErrUnknown {
			t.Errorf("Decl(%q): %d, %d", name, node, e)
		}
	}
}

func TestCheck(t *testing.T) { // P5.2
	p := flat(t, "datatype List<T> = Nil | Cons(head: T, tail: List<T>) datatype M::Pair<A, B> = Two(a: A, b: B) type Nat = x: int | 0 <= x witness 0 class Cell { } const c: int := 1; datatype Same = Same")
	for s, want := range map[string]api.Errno{
		"int": api.OK, "bv64": api.OK, "map<int,array<set<multiset<seq<real>>>>>": api.OK, "List<int>": api.OK, "List<List<Nat>>": api.OK, "M::Pair<int,Cell>": api.OK, "T": api.OK, "seq<T>": api.OK,
		"List": api.ErrArgs, "List<int,int>": api.ErrArgs, "M::Pair<int>": api.ErrArgs, "Nat<int>": api.ErrArgs, "Cell<int>": api.ErrArgs, "T<int>": api.ErrArgs, "Tree": api.ErrUnknown, "Pair<int,int>": api.ErrUnknown,
		"M::T": api.ErrUnknown, "Nil": api.ErrUnknown, "seq<Tree>": api.ErrUnknown, "List<Tree>": api.ErrUnknown, "Tree<List>": api.ErrUnknown, "List<List,Tree>": api.ErrArgs, "map<Tree,List>": api.ErrUnknown, "map<List,Tree>": api.ErrArgs,
		"M::Pair<seq<Tree>,List>": api.ErrUnknown, "Same": api.ErrUnknown, "Cell": api.OK, "U": api.OK,
		// A variable hides a declaration only where it has no arguments.
		"Nat": api.OK,
	} {
		if e := Check(p, s, []string{"T", "U", "Nat"}); e != want {
			t.Errorf("Check(%q): %d, want %d", s, e, want)
		}
	}
	if e := Check(p, "List<List>", []string{"List"}); e != api.OK {
		t.Errorf("Check with the variable List: %d", e)
	}
	for _, c := range []struct {
		s    string
		vars []string
		want api.Errno
	}{{"T", nil, api.ErrUnknown}, {"T", []string{"T", "t"}, api.ErrName}, {"x", []string{"t"}, api.ErrSyntax}, {"Tree", []string{"A", "A"}, api.ErrTwice}, {"Tree", manyNames(101), api.ErrMany}, {"int", manyNames(100), api.OK}} {
		if e := Check(p, c.s, c.vars); e != c.want {
			t.Errorf("Check(%q, %.9v): %d, want %d", c.s, c.vars, e, c.want)
		}
	}
}

func TestBase(t *testing.T) { // P5.2, P5.4
	p := flat(t, "datatype List<T> = Nil | Cons(head: T, tail: List<T>) type Nat = x: int | 0 <= x witness 0 type Big = n: Nat | 10 <= n witness 12 type Bigs = l: List<seq<Big>> | true witness Nil "+
		"type Round = s: seq<Round> | true witness [] type Left = s: Right | true witness [] type Right = s: map<int, Left> | true witness [] type Into = s: Left | true witness [] type Odd = s: Gone<Nat, Else> | true witness 0")
	for s, want := range map[string]string{
		"int": "int", "Nat": "int", "Big": "int", "Bigs": "List<seq<int>>", "map<Big,List<Nat>>": "map<int,List<int>>", "map<int,seq<Nat>>": "map<int,seq<int>>", "Gone": "Gone", "Gone<Nat,M::Nat>": "Gone<int,M::Nat>", "Odd": "Gone<int,Else>",
		"array<set<multiset<Bigs>>>": "array<set<multiset<List<seq<int>>>>>",
	} {
		got, e := Base(p, s)
		if got != want || e != api.OK {
			t.Errorf("Base(%q): %q, %d, want %q", s, got, e, want)
		}
		if again, e := Base(p, got); again != got || e != api.OK {
			t.Errorf("Base of the base of %q: %q, %d", s, again, e)
		}
	}
	for _, s := range []string{"Round", "seq<Round>", "Left", "Right", "Into", "map<Nat,Into>", "map<Into,Nat>"} {
		if got, e := Base(p, s); got != "" || e != api.ErrCycle {
			t.Errorf("Base(%q): %q, %d", s, got, e)
		}
	}
}

// doublings declares subset types S0, S1 .., each one of maps of the one behind it.
func doublings(n int) string {
	text := ""
	for i := range n {
		next := "S" + strconv.Itoa(i+1)
		text += "type S" + strconv.Itoa(i) + " = x: map<" + next + ", " + next + "> | true witness map[] "
	}
	return text + "type S" + strconv.Itoa(n) + " = x: int | true witness 0 "
}

func TestLongBases(t *testing.T) { // P5.2
	for n, want := range map[int]api.Errno{5: api.OK, 6: api.ErrLong, 60: api.ErrLong, 300: api.ErrLong} {
		if s, e := Base(flat(t, doublings(n)), "S0"); e != want || (s == "") != (e != api.OK) {
			t.Errorf("Base behind %d doublings: %d bytes, %d, want %d", n, len(s), e, want)
		}
	}
	// A cycle is told before a length.
	p := flat(t, strings.Replace(doublings(60), "x: int", "x: seq<S3>", 1))
	if _, e := Base(p, "S0"); e != api.ErrCycle {
		t.Errorf("Base of a long cycle: %d", e)
	}
	q := flat(t, "type Deep = x: "+times("seq<", 30)+"int"+times(">", 30)+" | true witness []")
	for n, want := range map[int]api.Errno{29: api.OK, 30: api.ErrLong} {
		if _, e := Base(q, times("set<", n)+"Deep"+times(">", n)); e != want {
			t.Errorf("Base in %d sets: %d, want %d", n, e, want)
		}
	}
	wide := flat(t, "type Wide = x: D<"+times("Abcd, ", 90)+"E> | true witness 0 class Cell { var w: D<"+times("Abcd, ", 90)+"E>; }")
	if _, e := Base(wide, "Wide"); e != api.ErrLong {
		t.Errorf("Base of a wide type: %d", e)
	}
	if l, e := Fields(wide, "Cell"); e != api.OK || len(l) != 1 || len(l[0].Type) != 454 {
		t.Errorf("Fields: %v, %d", l, e)
	}
}

func TestMembers(t *testing.T) { // P5.2
	p := flat(t, "datatype List<T> = Nil | Cons(head: T, tail: List<T>) datatype Two = A(x: int, y: Nat) | B(z: bool, x: real) type Nat = x: int | 0 <= x witness 0 type Lists = l: List<Nat> | true witness Nil type Cells = c: Cell | true witness c "+
		"class Cell { var v: Nat; ghost var g: List<int>; var v: bool; } type Bad = b: List | true witness Nil function f(): int datatype Wide<T> = W(x: map<T, T>, y: int)")
	for _, c := range []struct {
		s, name, want string
		ghost         bool
		e             api.Errno
	}{
		{"List<int>", "tail", "List<int>", false, api.OK}, {"List<Nat>", "head", "int", false, api.OK}, {"Lists", "tail", "List<int>", false, api.OK}, {"Two", "x", "int", false, api.OK}, {"Two", "y", "Nat", false, api.OK}, {"Two", "z", "bool", false, api.OK},
		{"Cell", "v", "Nat", false, api.OK}, {"Cell", "g", "List<int>", true, api.OK}, {"Cells", "g", "List<int>", true, api.OK}, {"Cell", "w", "", false, api.ErrUnknown}, {"Two", "w", "", false, api.ErrUnknown}, {"List<int>", "", "", false, api.ErrUnknown},
		{"int", "v", "", false, api.ErrKind}, {"seq<Cell>", "v", "", false, api.ErrKind}, {"array<int>", "v", "", false, api.ErrKind}, {"Nat", "x", "", false, api.ErrKind}, {"Gone", "v", "", false, api.ErrKind}, {"Nil", "v", "", false, api.ErrKind}, {"T", "v", "", false, api.ErrKind},
		{"List", "head", "", false, api.ErrArgs}, {"List<int,int>", "head", "", false, api.ErrArgs}, {"Bad", "head", "", false, api.ErrArgs}, {"Wide<" + longest[:len(longest)-20] + "Abc>>", "y", "", false, api.ErrLong}, {"x", "v", "", false, api.ErrSyntax},
	} {
		got, ghost, e := Member(p, c.s, c.name)
		if got != c.want || ghost != c.ghost || e != c.e {
			t.Errorf("Member(%.40q, %q): %q, %v, %d, want %q, %v, %d", c.s, c.name, got, ghost, e, c.want, c.ghost, c.e)
		}
	}
	cycle := flat(t, "type Round = s: seq<Round> | true witness []")
	if _, _, e := Member(cycle, "Round", "v"); e != api.ErrCycle {
		t.Errorf("Member of a cycle: %d", e)
	}
	if l, e := Fields(p, "Cell"); e != api.OK || !slices.Equal(l, []Field{{"v", "Nat", false}, {"g", "List<int>", true}, {"v", "bool", false}}) {
		t.Errorf("Fields: %v, %d", l, e)
	}
	for s, want := range map[string]api.Errno{"Gone": api.ErrUnknown, "int": api.ErrUnknown, "Nil": api.ErrUnknown, "List<int>": api.ErrKind, "Cells": api.ErrKind, "c": api.ErrSyntax, "": api.ErrSyntax} {
		if l, e := Fields(p, s); e != want || len(l) > 0 {
			t.Errorf("Fields(%q): %v, %d, want %d", s, l, e, want)
		}
	}
}

func TestSignature(t *testing.T) { // P5.2
	p := flat(t, "ghost opaque fuel 2 function f<T, U>(l: List<T>, ghost n: Nat): map<T, U> method M::m(x: int, ghost y: seq<bool>) returns (z: int, w: C<int>) lemma method l() function g(): int datatype D = C const c: int := 1;")
	for _, want := range []Callable{
		{"f", false, []string{"ghost", "opaque", "fuel 2"}, []string{"T", "U"}, []api.Bound{{Name: "l", Sort: "List<T>"}, {Name: "n", Sort: "Nat"}}, []bool{false, true}, []api.Bound{{Sort: "map<T,U>"}}},
		{"M::m", true, nil, nil, []api.Bound{{Name: "x", Sort: "int"}, {Name: "y", Sort: "seq<bool>"}}, []bool{false, true}, []api.Bound{{Name: "z", Sort: "int"}, {Name: "w", Sort: "C<int>"}}},
		{"l", true, []string{"lemma"}, nil, nil, nil, nil}, {"g", false, nil, nil, nil, nil, []api.Bound{{Sort: "int"}}},
	} {
		c, e := Signature(p, want.Name)
		same := c.Name == want.Name && c.Method == want.Method && slices.Equal(c.Marks, want.Marks) && slices.Equal(c.Vars, want.Vars) && slices.Equal(c.Params, want.Params) && slices.Equal(c.Ghosts, want.Ghosts) && slices.Equal(c.Results, want.Results)
		if !same || e != api.OK {
			t.Errorf("Signature(%q): %v, %d, want %v", want.Name, c, e, want)
		}
	}
	for name, want := range map[string]api.Errno{"": api.ErrUnknown, "m": api.ErrUnknown, "D": api.ErrKind, "C": api.ErrKind, "c": api.ErrKind} {
		if c, e := Signature(p, name); e != want || c.Name != "" {
			t.Errorf("Signature(%q): %v, %d, want %d", name, c, e, want)
		}
	}
}

func TestConstructors(t *testing.T) { // P5.3
	p := flat(t, "datatype List<T> = Nil | Cons(head: T, tail: List<T>) datatype Swap<A, B> = S(a: B, b: Swap<B, A>, c: A<int>, d: M::A) type Nat = x: int | 0 <= x witness 0 class Cell { } datatype Wide<T> = W | X(x: map<T, T>)")
	show := func(l []api.Cons) string {
		text := ""
		for _, c := range l {
			text += c.Name + "("
			for _, f := range c.Fields {
				text += f.Name + ":" + f.Sort + ";"
			}
			text += ")"
		}
		return text
	}
	for s, want := range map[string]string{
		"List<Nat>": "Nil()Cons(head:Nat;tail:List<Nat>;)", "List<List<T>>": "Nil()Cons(head:List<T>;tail:List<List<T>>;)", "Swap<B,int>": "S(a:int;b:Swap<int,B>;c:A<int>;d:M::A;)", "Wide<int>": "W()X(x:map<int,int>;)",
		"List<Gone>": "Nil()Cons(head:Gone;tail:List<Gone>;)",
	} {
		if l, e := Constructors(p, s); show(l) != want || e != api.OK {
			t.Errorf("Constructors(%q): %s, %d, want %s", s, show(l), e, want)
		}
	}
	for s, want := range map[string]api.Errno{
		"int": api.ErrUnknown, "seq<int>": api.ErrUnknown, "T": api.ErrUnknown, "Nil": api.ErrUnknown, "Nat": api.ErrKind, "Cell": api.ErrKind, "Cell<int>": api.ErrKind, "List": api.ErrArgs, "List<int,int>": api.ErrArgs,
		"Wide<" + longest[:len(longest)-20] + "Abc>>": api.ErrLong, "List<" + deepest[4:]: api.OK, "Wide<" + deepest[4:]: api.ErrLong, "": api.ErrSyntax, tooLong: api.ErrLong,
	} {
		if l, e := Constructors(p, s); e != want || e != api.OK && len(l) > 0 {
			t.Errorf("Constructors(%.40q): %s, %d, want %d", s, show(l), e, want)
		}
	}
	deep := flat(t, "datatype In<T> = I(x: seq<seq<T>>)")
	if _, e := Constructors(deep, "In<"+deepest[4:]); e != api.ErrLong {
		t.Errorf("Constructors with a deep field: %d", e)
	}
}

func printed(t *testing.T, p api.Tree, s string) string {
	t.Helper()
	d, e := Default(p, s)
	if e != api.OK {
		return "error " + strconv.Itoa(int(e))
	}
	for _, n := range d {
		if n.At != 0 {
			t.Errorf("Default(%q): an offset", s)
		}
	}
	text, e := tree.Print(d)
	if e != api.OK {
		t.Errorf("Default(%q): a text with the error %d", s, e)
	}
	return text
}

func TestDefaults(t *testing.T) { // P5.3, P5.4
	p := flat(t, "datatype List<T> = Nil | Cons(head: T, tail: List<T>) type Nat = x: int | 0 <= x witness 0 type Big = n: Nat | 10 <= n witness 5 + 7 class Cell { var v: int; } datatype Loop = More(rest: Loop) datatype Pair<A, B> = Two(a: A, b: B) "+
		"datatype Tree = Node(l: Tree, r: Tree) | Leaf(v: Big) datatype Far = First(p: Pair<Tree, int>) | Second(t: Tree) | Third(q: Pair<Tree, Cell>) datatype Even = Zero(o: Odd) datatype Odd = One(e: Even) | Last(n: int, l: List<Loop>) "+
		"type Cells = c: Cell | true witness c type Loops = l: Loop | true witness More(x) datatype Only = A(x: int) | B datatype Same = C(x: int) | D(y: bool) datatype Late = E(n: Nat) | F(m: int) datatype Own<T> = G(t: T) "+
		"type Round = s: seq<Round> | true witness [] datatype Broken = H(x: List) | I datatype Gone = J(x: Nowhere) | K(y: array<int>) | L(z: set<Loop>)")
	for s, want := range map[string]string{
		"bool": "false", "int": "0", "real": "0.0", "bv1": "(0 as bv1)", "bv64": "(0 as bv64)", "seq<Loop>": "[]", "set<Cell>": "{}", "multiset<int>": "multiset{}", "map<int,Cell>": "map[]",
		"Nat": "0", "Big": "5 + 7", "List<Loop>": "Nil", "List<Nat>": "Nil", "Pair<Big,bv4>": "Two(0, (0 as bv4))", "Tree": "Leaf(5 + 7)", "Far": "Second(Leaf(5 + 7))", "Even": "Zero(Last(0, Nil))", "Odd": "Last(0, Nil)",
		"Only": "B", "Same": "C(0)", "Own<seq<Cell>>": "G([])", "Gone": "L({})",
		// A subset type has a value one round behind its base.
		"Late":       "F(0)",
		"array<int>": "error 10", "Cell": "error 10", "Loop": "error 10", "Cells": "error 10", "Loops": "error 10", "Pair<int,Loop>": "error 10", "Own<Cell>": "error 10", "Own<Loops>": "error 10",
		"T": "error 8", "List<T>": "error 8", "List": "error 14", "Round": "error 18", "seq<Round>": "error 18", "Broken": "error 14", "Own<Broken>": "error 14", "": "error 22", tooLong: "error 23",
	} {
		if got := printed(t, p, s); got != want {
			t.Errorf("Default(%q): %s, want %s", s, got, want)
		}
		is, e := Inhabited(p, s, nil)
		wantError := api.OK
		if number, found := strings.CutPrefix(want, "error "); found && number != "10" {
			n, _ := strconv.Atoi(number)
			wantError = api.Errno(n)
		}
		if e != wantError || is != !strings.HasPrefix(want, "error") {
			t.Errorf("Inhabited(%q): %v, %d", s, is, e)
		}
	}
}

func TestInhabitedVariables(t *testing.T) { // P5.3
	p := flat(t, "datatype List<T> = Nil | Cons(head: T, tail: List<T>) datatype Box<T> = B(x: T) type Nat = x: int | 0 <= x witness 0 class Cell { }")
	for _, c := range []struct {
		s    string
		vars []string
		is   bool
		want api.Errno
	}{
		{"T", []string{"T"}, false, api.OK}, {"List<T>", []string{"T"}, true, api.OK}, {"Box<T>", []string{"T"}, false, api.OK}, {"Box<seq<T>>", []string{"T"}, true, api.OK}, {"T", nil, false, api.ErrUnknown}, {"T<int>", []string{"T"}, false, api.ErrArgs},
		// A variable with the name of a declared type counts as this type.
		{"Nat", []string{"Nat"}, true, api.OK}, {"Box<Nat>", []string{"Nat"}, true, api.OK}, {"Cell", []string{"Cell"}, false, api.OK}, {"List", []string{"List"}, false, api.ErrArgs}, {"Box<List>", []string{"List"}, false, api.ErrArgs},
		{"int", []string{"t"}, false, api.ErrName}, {"int", []string{"T", "T"}, false, api.ErrTwice}, {"int", manyNames(101), false, api.ErrMany}, {"x", []string{"t"}, false, api.ErrSyntax},
	} {
		if is, e := Inhabited(p, c.s, c.vars); is != c.is || e != c.want {
			t.Errorf("Inhabited(%q, %.9v): %v, %d, want %v, %d", c.s, c.vars, is, e, c.is, c.want)
		}
	}
}

// row declares datatypes D0, D1 .., each one with fields of the one behind it.
func row(n, fields int, last string) string {
	text := ""
	for i := range n {
		var list []string
		for k := range fields {
			list = append(list, "f"+strconv.Itoa(k)+": D"+strconv.Itoa(i+1))
		}
		text += "datatype D" + strconv.Itoa(i) + " = C" + strconv.Itoa(i) + "(" + strings.Join(list, ", ") + ") "
	}
	return text + "datatype D" + strconv.Itoa(n) + " = " + last
}

func TestReach(t *testing.T) { // P5.3
	for n, want := range map[int]api.Errno{199: api.OK, 200: api.ErrLimit, 300: api.ErrLimit} {
		if is, e := Inhabited(flat(t, row(n, 1, "E")), "D0", nil); is != (want == api.OK) || e != want {
			t.Errorf("Inhabited behind %d types: %v, %d", n, is, e)
		}
	}
	if is, e := Inhabited(flat(t, row(198, 1, "E(x: int)")), "D0", nil); !is || e != api.OK {
		t.Errorf("Inhabited, 200 types: %v, %d", is, e)
	}
	if _, e := Inhabited(flat(t, row(199, 1, "E(x: int)")), "D0", nil); e != api.ErrLimit {
		t.Errorf("Inhabited, 201 types: %d", e)
	}
	growing := flat(t, "datatype D<T> = A | B(x: D<seq<T>>) datatype E<S, T> = F(x: E<seq<S>, T>, y: E<S, seq<T>>) | G")
	if _, e := Inhabited(growing, "D<int>", nil); e != api.ErrLong {
		t.Errorf("Inhabited, deeper and deeper: %d", e)
	}
	if _, e := Inhabited(growing, "E<int,int>", nil); e != api.ErrLimit {
		t.Errorf("Inhabited, more and more: %d", e)
	}
	// A default expression is as deep as the row of types, and can have too many nodes.
	for _, c := range []struct {
		n, fields int
		last      string
		want      api.Errno
	}{{59, 1, "E", api.OK}, {60, 1, "E", api.ErrDeep}, {3, 15, "E", api.OK}, {3, 16, "E", api.ErrMany}, {70, 2, "E", api.ErrMany}, {190, 3, "E", api.ErrMany}} {
		d, e := Default(flat(t, row(c.n, c.fields, c.last)), "D0")
		if e != c.want || (len(d) > 0) != (e == api.OK) {
			t.Errorf("Default of %d types with %d fields: %d nodes, %d, want %d", c.n, c.fields, len(d), e, c.want)
		}
	}
	many := "datatype D = C(f: int" + times(", f: int", 500) + ")"
	if d, e := Default(flat(t, many), "D"); len(d) != 502 || e != api.OK {
		t.Errorf("Default with 501 fields: %d nodes, %d", len(d), e)
	}
}

func TestFinite(t *testing.T) { // P5.3
	p := flat(t, "datatype Color = Red | Green datatype List<T> = Nil | Cons(head: T, tail: List<T>) datatype Tag<T> = Tag1 | Tag2 type Small = b: bv3 | true witness (0 as bv3) type Paint = c: Color | true witness Red type Nat = x: int | 0 <= x witness 0 "+
		"class Cell { } type Round = s: seq<Round> | true witness [] type Bad = l: List | true witness Nil type None = n: Nowhere | true witness 0 datatype Wide<T> = W(x: map<T, T>)")
	for s, want := range map[string]bool{
		"bool": true, "bv1": true, "bv2": true, "bv3": true, "bv4": true, "bv5": false, "bv10": false, "int": false, "real": false, "seq<bool>": false, "set<bool>": false, "map<bool,bool>": false, "array<bool>": false,
		"Color": true, "Tag<int>": true, "List<bool>": false, "Small": true, "Paint": true, "Nat": false, "Cell": false, "None": false,
	} {
		if is, e := Finite(p, s); is != want || e != api.OK {
			t.Errorf("Finite(%q): %v, %d", s, is, e)
		}
	}
	for s, want := range map[string]api.Errno{"T": api.ErrUnknown, "List": api.ErrArgs, "Round": api.ErrCycle, "set<Round>": api.ErrCycle, "Bad": api.ErrArgs, "Wide<" + longest[:len(longest)-20] + "Abc>>": api.ErrUnknown, "x": api.ErrSyntax, tooLong: api.ErrLong} {
		if is, e := Finite(p, s); is || e != want {
			t.Errorf("Finite(%.40q): %v, %d, want %d", s, is, e, want)
		}
	}
}

// TestFiniteReach asks for types of which the rules reach others: whether one of them has an error matters for all three functions.
func TestFiniteReach(t *testing.T) { // P5.3
	round, tight := "type S = x: S | true witness 0 ", "datatype L<T> = N class Cell { var l: L; var s: S; } "
	deep, nested := "datatype Deep<T> = A | B(d: "+times("seq<", 40)+"T"+times(">", 40)+") ", times("set<", 19)+"int"+times(">", 19)
	for _, c := range []struct {
		text, typ string
		want      api.Errno
	}{
		{"datatype Grow<T> = G(g: Grow<seq<T>>) | H", "Grow<int>", api.ErrLong}, {"datatype Long = A | B(w: Wide<" + longest + ">) datatype Wide<T> = W(x: map<T, T>)", "Long", api.ErrLong},
		{deep, "Deep<" + nested + ">", api.OK}, {deep, "Deep<set<" + nested + ">>", api.ErrLong}, {deep + "datatype D = A | C(c: Deep<set<" + nested + ">>)", "D", api.ErrLong},
		{round + "datatype D = A | B(s: S)", "D", api.ErrCycle}, {round + "datatype D = A | B(s: seq<S>)", "D", api.ErrCycle}, {round + "datatype D = A | B(c: C) datatype C = E(f: D, s: map<int, S>)", "D", api.ErrCycle},
		{round + "type R = d: D | true witness A datatype D = A | B(s: S)", "R", api.ErrCycle}, {round + "datatype D<T> = A | B(t: T) datatype C = E(d: D<S>)", "C", api.ErrCycle},
		{tight + "datatype D = A | B(l: L)", "D", api.ErrArgs}, {tight + "datatype D = A | B(c: C) datatype C = E(l: L)", "D", api.ErrArgs}, {tight + "datatype D = A | B(l: L<int, int>)", "D", api.ErrArgs},
		{tight + "datatype D<T> = A | B(t: T) datatype C = E(d: D<L>)", "C", api.ErrArgs}, {tight + "type R = d: D | true witness A datatype D = A | B(l: L)", "R", api.ErrArgs},
		{row(199, 1, "E"), "D0", api.OK}, {row(200, 1, "E"), "D0", api.ErrLimit}, {row(300, 2, "E"), "D0", api.ErrLimit}, {row(200, 1, "E"), "D1", api.OK},
		{row(198, 1, "E") + " type R = d: D0 | true witness E", "R", api.OK}, {row(199, 1, "E") + " type R = d: D0 | true witness E", "R", api.ErrLimit},
		{"datatype More<S, T> = F(x: More<seq<S>, T>, y: More<S, seq<T>>) | G", "More<int,int>", api.ErrLimit},
		// The rules do not reach the elements of collections, the fields of classes and names that nothing declares.
		{tight + "datatype D = A | B(l: seq<L>)", "D", api.OK}, {tight + "datatype D = A | B(l: array<L>, m: L<L>)", "D", api.OK}, {tight + round + "datatype D = A | B(c: Cell)", "D", api.OK},
		{"datatype D = A | B(n: Nowhere<int>)", "D", api.OK}, {row(300, 1, "E") + " datatype D = A | B(d: set<D0>)", "D", api.OK},
	} {
		p := flat(t, c.text)
		if is, e := Finite(p, c.typ); is || e != c.want {
			t.Errorf("Finite(%q) of %.60q: %v, %d, want %d", c.typ, c.text, is, e, c.want)
		}
		if _, e := Inhabited(p, c.typ, nil); e != c.want {
			t.Errorf("Inhabited(%q) of %.60q: %d, want %d", c.typ, c.text, e, c.want)
		}
		if _, e := Default(p, c.typ); e != c.want && (c.want != api.OK || e != api.ErrDeep) {
			t.Errorf("Default(%q) of %.60q: %d, want %d", c.typ, c.text, e, c.want)
		}
	}
	// What a finite type does not reach has no errors for it.
	p := flat(t, round+tight+row(300, 1, "E")+" datatype Color<T> = Red | Green type Paint = c: Color<S> | true witness Red type Shade = c: Color<Color<D0>> | true witness Red")
	for s, want := range map[string]api.Errno{"Color<D0>": api.OK, "Color<Cell>": api.OK, "Shade": api.OK, "Color<Shade>": api.OK, "Paint": api.ErrCycle, "Color<S>": api.ErrCycle} {
		if is, e := Finite(p, s); is != (want == api.OK) || e != want {
			t.Errorf("Finite(%q): %v, %d, want %d", s, is, e, want)
		}
	}
}
