package infer

import (
	"slices"
	"strconv"
	"strings"
	"testing"

	"entail/api"
	"entail/parse"
)

// flat reads a flat program.
func flat(t *testing.T, s string) api.Tree {
	t.Helper()
	p, at, e := parse.Program(s)
	if e != api.OK {
		t.Fatalf("%s: %d at %q", s, e, s[at:])
	}
	return p
}

// expr reads an expression.
func expr(t *testing.T, s string) api.Tree {
	t.Helper()
	x, at, e := parse.Expression(s)
	if e != api.OK {
		t.Fatalf("%s: %d at %q", s, e, s[at:])
	}
	return x
}

// declared is the program of chapter 5 with more declarations.
const declared = "datatype List<T> = Nil | Cons(head: T, tail: List<T>) type Nat = x: int | 0 <= x witness 0 class Cell { var v: int; ghost var old_v: Nat; } datatype Loop = More(rest: Loop) " +
	"datatype Pair<A, B> = Two(one: A, two: B) | One(one: A) datatype Phantom<A, B> = Ghost(a: A) datatype Wide<T> = W(wide: map<T, T>, y: int) | V type Nats = s: seq<Nat> | true witness [] " +
	"function len<T>(l: List<T>): Nat function id<T>(x: T): T function none<T>(): int function cell(): Cell function both<T>(x: T, y: T): T function nat(n: Nat): int function pair<A, B>(p: Pair<A, B>): Pair<B, A> " +
	"function more<T>(x: T): map<T, T> const M::c: int := 1; const k: Nats := []; method m() "

var given = []api.Bound{{Name: "b", Sort: "bool"}, {Name: "i", Sort: "int"}, {Name: "n", Sort: "Nat"}, {Name: "r", Sort: "real"}, {Name: "v", Sort: "bv8"}, {Name: "w", Sort: "bv9"}, {Name: "s", Sort: "seq<int>"},
	{Name: "t", Sort: "set<int>"}, {Name: "u", Sort: "multiset<bool>"}, {Name: "m", Sort: "map<int,bool>"}, {Name: "a", Sort: "array<real>"}, {Name: "l", Sort: "List<bool>"}, {Name: "c", Sort: "Cell"}, {Name: "p", Sort: "Pair<int,real>"},
	{Name: "ns", Sort: "Nats"}, {Name: "f", Sort: "Wide<int>"}}

func TestTypeOf(t *testing.T) { // P8.2
	p := flat(t, declared)
	for s, want := range map[string]string{
		"12": "int", "1.5": "real", "true": "bool", "b": "bool", "n": "int", "ns": "seq<int>", "M::c": "int", "k": "Nats", "ns[0]": "int",
		"!b": "bool", "-i": "int", "-r": "real", "-v": "bv8", "-n": "int",
		"i + n": "int", "r + 1.0": "real", "v + v": "bv8", "s + []": "seq<int>", "[] + s": "seq<int>", "t + {}": "set<int>", "u + multiset{}": "multiset<bool>", "m + map[]": "map<int,bool>",
		"i - 1": "int", "r - r": "real", "v - v": "bv8", "t - t": "set<int>", "u - u": "multiset<bool>", "i * 2": "int", "r * r": "real", "v * v": "bv8", "t * t": "set<int>", "u * u": "multiset<bool>",
		"i / 2": "int", "r / r": "real", "v / v": "bv8", "i % 2": "int", "v % v": "bv8",
		"b && b": "bool", "b || b": "bool", "b ==> b": "bool", "b <==> b": "bool", "s == []": "bool", "Nil == l": "bool", "c != c": "bool", "a == a": "bool",
		"i < n": "bool", "r <= r": "bool", "v < v": "bool", "s < []": "bool", "t <= {}": "bool", "u < u": "bool",
		"i in s": "bool", "i in t": "bool", "b in u": "bool", "i in m": "bool", "[] in [s]": "bool",
		"v & v": "bv8", "v | v": "bv8", "v ^ v": "bv8", "v << 1": "bv8", "v >> n": "bv8",
		"(i as real)": "real", "(r as int)": "int", "(v as bv9)": "bv9", "(i as bv1)": "bv1", "(w as Nat)": "int",
		"if b then [] else s": "seq<int>", "var x := []; x + s": "seq<int>", "var x := s; var x := x[0]; x": "int",
		"len(l)": "int", "len(Cons(1, Nil)) + len(l)": "int", "id(i)": "int", "id(id(s))": "seq<int>", "both(Nil, l)": "List<bool>", "both([], [[i]])": "seq<seq<int>>", "nat(i)": "int", "cell().v": "int", "pair(p)": "Pair<real,int>",
		"Cons(s, Nil)": "List<seq<int>>", "Two(i, r)": "Pair<int,real>", "Cons(Nil, Cons(l, Nil))": "List<List<bool>>", "V == f": "bool", "more(l)": "map<List<bool>,List<bool>>",
		"l.head": "bool", "l.tail": "List<bool>", "c.v": "int", "c.old_v": "int", "p.one": "int", "p.two": "real", "l.tail.tail.head": "bool", "f.wide": "map<int,int>", "Cons(i, Nil).head": "int",
		"l.Nil?": "bool", "p.One?": "bool",
		"s[0]": "int", "a[i]": "real", "m[i]": "bool", "u[b]": "int", "s[0..i]": "seq<int>", "s[0 := 1]": "seq<int>", "m[0 := b]": "map<int,bool>", "u[b := 3]": "multiset<bool>",
		"#s": "int", "#t": "int", "#u": "int", "#m": "int", "#a": "int", "[[], s]": "seq<seq<int>>", "{i, 1}": "set<int>", "multiset{b}": "multiset<bool>", "map[i := [], 1 := s]": "map<int,seq<int>>", "map[[] := i, s := 1]": "map<seq<int>,int>",
		"forall x: int {x + 1} :: x < i": "bool", "exists x: Nat, y: List<int> {len(y), x} {y} :: len(y) < x": "bool", "set x: Nat | x < i :: [x]": "set<seq<int>>",
		"match l { case Nil => [] case Cons(h, t) => [h] }": "seq<bool>", "match i { case 0 => 1.0 case -1 => r case x => (x as real) }": "real", "match b { case true => 1 case _ => 2 }": "int",
		"match p { case Two(x, y) => y case One(_) => r }": "real", "match Nil { case Cons(1, x) => x case x => x }": "List<int>", "match l { case Cons(h, Cons(g, _)) => h == g case _ => b }": "bool", "match [] { case x => x + s }": "seq<int>",
		"old(c.v)": "int", "fresh(c)": "bool", "fresh(a)": "bool", "[c, cell()]": "seq<Cell>", "var x := Nil; Cons(i, x)": "List<int>", "var f := i; f": "int",
		// What comes later makes earlier types known.
		"var x := []; #x + x[0]": "int", "[id(Nil)] == [l]": "bool", "{} == {Nil, l}": "bool", "-(if b then 1 else id(2))": "int", "var x := id; x": "",
	} {
		if want == "Nats" {
			want = "seq<int>"
		}
		got, e := TypeOf(p, expr(t, s), given)
		if want == "" && e != api.ErrUnknown || got != want || want != "" && e != api.OK {
			t.Errorf("TypeOf(%s): %q, %d, want %q", s, got, e, want)
		}
	}
}

func TestNodes(t *testing.T) { // P8.2
	p := flat(t, declared)
	for s, want := range map[string]string{
		"i + 1": "int int int", "(i as real) < r": "int - real real bool", "[Nil, l]": "List<bool> List<bool> seq<List<bool>>",
		"forall x: Nat {x} :: b": "- - int - bool bool", "set x: int | b :: r": "- - bool real set<real>", "map[1 := b]": "int bool map<int,bool>",
		"match l { case Cons(x, _) => [x] case Nil => [] }":        "List<bool> bool List<bool> List<bool> bool seq<bool> - List<bool> seq<bool> - seq<bool>",
		"match i { case -1 => b case 2 => b case x => true }":      "int int int int bool - int int bool - int bool - bool",
		"match b { case true => i case y => 1 }":                   "bool bool bool int - bool int - int",
		"match Nil { case Cons(1, x) => #[x] case _ => 0 }":        "List<int> int int List<int> List<int> List<int> seq<List<int>> int - List<int> int - int",
		"var x := []; x == [1]":                                    "seq<int> seq<int> int seq<int> bool bool",
		"exists x: List<int>, y: real {x.head, y} :: x.tail.Cons?": "- - - - - List<int> int real - List<int> List<int> bool bool",
	} {
		x := expr(t, s)
		got, at, e := Expression(p, x, given)
		if list := dashes(got); list != want || at != 0 || e != api.OK {
			t.Errorf("Expression(%s): %s, %d at %d, want %s", s, list, e, at, want)
		}
		if root, e := TypeOf(p, x, given); root != got[len(got)-1] || e != api.OK {
			t.Errorf("TypeOf(%s): %s, %d", s, root, e)
		}
	}
}

// dashes joins types; nodes without a type have a dash.
func dashes(l []string) string {
	l = slices.Clone(l)
	for i, s := range l {
		if s == "" {
			l[i] = "-"
		}
	}
	return strings.Join(l, " ")
}

// problem is an expression with the index of a node and its error.
type problem struct {
	text string
	at   int
	e    api.Errno
}

// checkProblems checks where expressions have their errors.
func checkProblems(t *testing.T, p api.Tree, vars []api.Bound, problems []problem) {
	t.Helper()
	for _, c := range problems {
		x := expr(t, c.text)
		if l, at, e := Expression(p, x, vars); len(l) > 0 || at != c.at || e != c.e {
			t.Errorf("Expression(%.80s): %v, %d at %d, want %d at %d", c.text, l, e, at, c.e, c.at)
		}
		if s, e := TypeOf(p, x, vars); s != "" || e != c.e {
			t.Errorf("TypeOf(%.80s): %q, %d, want %d", c.text, s, e, c.e)
		}
	}
}

func TestTypeErrors(t *testing.T) { // P8.2
	checkProblems(t, flat(t, declared), given, []problem{
		{"1 + 1.0", 2, api.ErrType}, {"x in 3", 0, api.ErrUnknown}, {"i in 3", 2, api.ErrType}, {"!i", 1, api.ErrType}, {"b && i", 2, api.ErrType}, {"i && b", 2, api.ErrType}, {"i ==> b", 2, api.ErrType},
		{"-b", 1, api.ErrType}, {"-s", 1, api.ErrType}, {"b + b", 2, api.ErrType}, {"l + l", 2, api.ErrType}, {"c + c", 2, api.ErrType}, {"a + a", 2, api.ErrType}, {"s - s", 2, api.ErrType}, {"m - m", 2, api.ErrType}, {"m - t", 2, api.ErrType}, {"s * s", 2, api.ErrType}, {"m * m", 2, api.ErrType},
		{"t / t", 2, api.ErrType}, {"r % r", 2, api.ErrType}, {"b % b", 2, api.ErrType}, {"v + w", 2, api.ErrType}, {"v + i", 2, api.ErrType},
		{"b < b", 2, api.ErrType}, {"m <= m", 2, api.ErrType}, {"l < l", 2, api.ErrType}, {"c < c", 2, api.ErrType}, {"i < r", 2, api.ErrType}, {"s == t", 2, api.ErrType}, {"Nil == 1", 2, api.ErrType},
		{"1.0 in s", 2, api.ErrType}, {"b in m", 2, api.ErrType}, {"r in a", 2, api.ErrType}, {"b in l", 2, api.ErrType},
		{"i & i", 2, api.ErrType}, {"v | w", 2, api.ErrType}, {"b ^ b", 2, api.ErrType}, {"i << 1", 2, api.ErrType}, {"v << v", 2, api.ErrType}, {"v >> 1.0", 2, api.ErrType},
		{"(b as int)", 2, api.ErrType}, {"(i as bool)", 2, api.ErrType}, {"(i as seq<int>)", 3, api.ErrType}, {"(l as int)", 2, api.ErrType},
		{"if i then 1 else 2", 3, api.ErrType}, {"if b then 1 else 2.0", 3, api.ErrType}, {"var x := 1; x && b", 3, api.ErrType},
		{"len(1)", 1, api.ErrType}, {"both(1, b)", 2, api.ErrType}, {"nat(r)", 1, api.ErrType}, {"Cons(1, l)", 2, api.ErrType}, {"pair(l)", 1, api.ErrType},
		{"i.v", 1, api.ErrType}, {"s.v", 1, api.ErrType}, {"a.v", 1, api.ErrType}, {"l.nope", 1, api.ErrUnknown}, {"c.head", 1, api.ErrUnknown}, {"n.x", 1, api.ErrType},
		{"i.Nil?", 1, api.ErrType}, {"p.Nil?", 1, api.ErrType}, {"p.Nope?", 1, api.ErrUnknown}, {"p.Pair?", 1, api.ErrUnknown},
		{"i[0]", 2, api.ErrType}, {"t[0]", 2, api.ErrType}, {"s[b]", 2, api.ErrType}, {"a[b]", 2, api.ErrType}, {"m[b]", 2, api.ErrType}, {"u[i]", 2, api.ErrType},
		{"a[0..1]", 3, api.ErrType}, {"m[0..1]", 3, api.ErrType}, {"s[b..1]", 3, api.ErrType}, {"s[1..b]", 3, api.ErrType}, {"a[0 := r]", 3, api.ErrType}, {"t[0 := 1]", 3, api.ErrType}, {"s[b := 1]", 3, api.ErrType}, {"s[0 := b]", 3, api.ErrType}, {"m[b := b]", 3, api.ErrType}, {"m[0 := 1]", 3, api.ErrType}, {"u[b := b]", 3, api.ErrType},
		{"#i", 1, api.ErrType}, {"#l", 1, api.ErrType}, {"#c", 1, api.ErrType}, {"[1, b]", 2, api.ErrType}, {"{1, 2, r}", 3, api.ErrType}, {"multiset{b, 1}", 2, api.ErrType}, {"map[1 := b, 2 := 3]", 4, api.ErrType}, {"map[1 := b, b := b]", 4, api.ErrType},
		{"forall x: int :: x", 3, api.ErrType}, {"forall x: int {x + b} :: b", 4, api.ErrType}, {"set x: int | x :: x", 4, api.ErrType},
		{"match l { case Nil => 1 case _ => b }", 7, api.ErrType}, {"match i { case true => 1 }", 2, api.ErrType}, {"match b { case -1 => 1 }", 3, api.ErrType}, {"match i { case Nil => 1 }", 1, api.ErrType}, {"match l { case Cons(1, _) => 1 }", 2, api.ErrType}, {"match l { case Cons(_, Two(_, _)) => 1 }", 4, api.ErrType},
		{"match l { case Cons(_) => 1 }", 2, api.ErrArgs}, {"match l { case Nil(x) => 1 }", 2, api.ErrArgs}, {"match l { case Nope(x) => 1 }", 2, api.ErrUnknown}, {"match i { case Nope(1) => 1 }", 3, api.ErrUnknown},
		// The pattern outside comes first, and before what the case has.
		{"match l { case Cons(Nope, x, y) => z }", 4, api.ErrArgs}, {"match l { case Cons(Nope, x) => z }", 1, api.ErrUnknown}, {"match l { case Cons(x, y) => z }", 4, api.ErrUnknown}, {"match l { case Cons(Two(_), 1) => z }", 2, api.ErrArgs},
		{"fresh(i)", 1, api.ErrType}, {"fresh(l)", 1, api.ErrType}, {"fresh({c})", 2, api.ErrType}, {"old(x)", 0, api.ErrUnknown},
		{"y", 0, api.ErrUnknown}, {"len", 0, api.ErrUnknown}, {"M::d", 0, api.ErrUnknown}, {"Cell(1)", 1, api.ErrUnknown}, {"List", 0, api.ErrUnknown}, {"nope(1)", 1, api.ErrUnknown}, {"m()", 0, api.ErrUnknown}, {"k()", 0, api.ErrUnknown}, {"(forall x: int :: b) == x", 4, api.ErrUnknown},
		{"len()", 0, api.ErrArgs}, {"len(l, 1)", 2, api.ErrArgs}, {"Cons(1)", 1, api.ErrArgs}, {"Nil(1)", 1, api.ErrArgs}, {"none(x)", 0, api.ErrUnknown}, {"len(1 + b, 2)", 2, api.ErrType},
		// No type is a part of itself.
		{"var x := []; x == [x]", 4, api.ErrType}, {"var x := Nil; Cons(x, x)", 3, api.ErrType}, {"var x := {}; var y := [x]; x == {y}", 6, api.ErrType}, {"var x := []; both(map[x := 1], map[[x] := 1])", 8, api.ErrType}, {"var x := []; both([x], x)", 4, api.ErrType},
		// What is asked at a node, and later.
		{"b + b == 1", 4, api.ErrType}, {"-b + 1", 3, api.ErrType}, {"-b == -s", 4, api.ErrType}, {"(b as int) + -b", 5, api.ErrType}, {"-b < #i", 3, api.ErrType},
	})
}

func TestOpen(t *testing.T) { // P8.2
	checkProblems(t, flat(t, declared), given, []problem{
		{"Nil", 0, api.ErrOpen}, {"[]", 0, api.ErrOpen}, {"map[]", 0, api.ErrOpen}, {"Nil.nope", 1, api.ErrUnknown}, {"Nil.head", 0, api.ErrOpen}, {"#([] + [])", 0, api.ErrOpen}, {"[] == []", 0, api.ErrOpen}, {"Nil == Nil", 0, api.ErrOpen}, {"len(Nil)", 0, api.ErrOpen}, {"Two(Nil, l)", 0, api.ErrOpen},
		{"Nil.head.v", 2, api.ErrOpen}, {"Nil.head[0]", 3, api.ErrOpen}, {"[][0][0..1]", 5, api.ErrOpen}, {"[][0][0 := 1]", 5, api.ErrOpen}, {"#[][0]", 3, api.ErrOpen}, {"1 in [][0]", 4, api.ErrOpen}, {"fresh([][0])", 3, api.ErrOpen},
		{"[][0] + [][0]", 6, api.ErrOpen}, {"-[][0]", 3, api.ErrOpen}, {"[][0] < [][0]", 6, api.ErrOpen}, {"([][0] as int)", 4, api.ErrOpen}, {"[][0] & [][0]", 6, api.ErrOpen}, {"[][0] << 1", 4, api.ErrOpen}, {"[][0] / [][0]", 6, api.ErrOpen},
		{"[][0] == [][0]", 0, api.ErrOpen}, {"match [][0] { case x => x }", 0, api.ErrOpen}, {"match i { case x => [] }", 2, api.ErrOpen}, {"forall x: int {[]} :: b", 2, api.ErrOpen},
		// Heads are asked before the rest, in their order.
		{"[] == [] && -b == b", 4, api.ErrType}, {"[] == [] && -b < 1", 6, api.ErrType}, {"-[][0] == 1 && -b == b", 7, api.ErrType}, {"(-[][0] == [][0]) == (-b == b)", 3, api.ErrOpen}, {"(-b == b) == (-[][0] == [][0])", 1, api.ErrType},
		// Type arguments that no type has in it.
		{"none()", 0, api.ErrOpen}, {"none() + none()", 0, api.ErrOpen}, {"Ghost(i)", 1, api.ErrOpen}, {"b && none() == 1 && [] == []", 5, api.ErrOpen}, {"#[Ghost(i)]", 1, api.ErrOpen},
		{"#{Nil, Nil}", 0, api.ErrOpen}, {"none() == #[]", 1, api.ErrOpen}, {"Nil.Cons?", 0, api.ErrOpen},
	})
}

// deepType is a type of so many levels.
func deepType(levels int) string {
	return strings.Repeat("seq<", levels-1) + "int" + strings.Repeat(">", levels-1)
}

func TestArguments(t *testing.T) { // P8.2
	p := flat(t, declared)
	for _, c := range []struct {
		vars []api.Bound
		want api.Errno
	}{
		{[]api.Bound{{Name: "x", Sort: "int"}}, api.OK}, {[]api.Bound{{Name: "x", Sort: "int"}, {Name: "x", Sort: "int"}}, api.ErrTwice}, {[]api.Bound{{Name: "x", Sort: "int"}, {Name: "x", Sort: "?"}}, api.ErrTwice},
		{[]api.Bound{{Name: "X", Sort: "?"}}, api.ErrName}, {[]api.Bound{{Name: "M::x", Sort: "int"}}, api.ErrName}, {[]api.Bound{{Name: "if", Sort: "int"}}, api.ErrName}, {[]api.Bound{{Name: "", Sort: "int"}}, api.ErrName}, {[]api.Bound{{Name: strings.Repeat("x", 25), Sort: "int"}}, api.ErrName},
		{[]api.Bound{{Name: "x", Sort: ""}}, api.ErrSyntax}, {[]api.Bound{{Name: "x", Sort: "map<int, int>"}}, api.ErrSyntax}, {[]api.Bound{{Name: "x", Sort: "T"}}, api.ErrUnknown}, {[]api.Bound{{Name: "x", Sort: "List"}}, api.ErrArgs}, {[]api.Bound{{Name: "x", Sort: "Nil"}}, api.ErrUnknown},
		{[]api.Bound{{Name: "x", Sort: deepType(60)}}, api.OK}, {[]api.Bound{{Name: "x", Sort: deepType(61)}}, api.ErrSyntax}, {[]api.Bound{{Name: "x", Sort: strings.Repeat("x", 401)}}, api.ErrLong},
		{[]api.Bound{{Name: "x", Sort: "seq<T>"}, {Name: "X", Sort: "int"}}, api.ErrUnknown}, {[]api.Bound{{Name: "x", Sort: "Nats"}, {Name: "y", Sort: "M::X"}}, api.ErrUnknown},
	} {
		if _, at, e := Expression(p, expr(t, "1"), c.vars); at != 0 || e != c.want {
			t.Errorf("Expression with %.60v: %d at %d, want %d", c.vars, e, at, c.want)
		}
		if _, e := TypeOf(p, expr(t, "1"), c.vars); e != c.want {
			t.Errorf("TypeOf with %.60v: %d, want %d", c.vars, e, c.want)
		}
	}
	var many []api.Bound
	for i := range 101 {
		many = append(many, api.Bound{Name: "x" + strconv.Itoa(i), Sort: "int"})
	}
	if _, e := TypeOf(p, expr(t, "x99"), many[:100]); e != api.OK {
		t.Errorf("100 variables: %d", e)
	}
	many[0].Name = "X"
	if _, e := TypeOf(p, expr(t, "y"), many); e != api.ErrMany {
		t.Errorf("101 variables: %d", e)
	}
	round := flat(t, "type Round = s: seq<Round> | true witness [] const c: int := 1;")
	if _, at, e := Expression(round, expr(t, "y"), []api.Bound{{Name: "x", Sort: "Round"}}); at != 0 || e != api.ErrCycle {
		t.Errorf("a variable of a type without a base: %d at %d", e, at)
	}
	for _, c := range []struct {
		p, x api.Tree
		want api.Errno
	}{
		{p, nil, api.ErrEmpty}, {p, api.Tree{{Op: api.ENot}}, api.ErrShape}, {p, api.Tree{{Op: api.TInt}, {Op: api.EVar}}, api.ErrName}, {p, api.Tree{{Op: api.TInt}}, api.ErrKind}, {p, api.Tree{{Op: api.PWild}}, api.ErrKind}, {p, p, api.ErrKind}, {nil, nil, api.ErrEmpty}, {expr(t, "1 + 2"), nil, api.ErrKind},
		{flat(t, "module M { }"), expr(t, "1"), api.ErrKind}, {flat(t, "const c: int := 1; const c: int := 2;"), nil, api.ErrTwice},
	} {
		if _, at, e := Expression(c.p, c.x, []api.Bound{{Name: "X"}}); at != 0 || e != c.want {
			t.Errorf("Expression of %d nodes: %d at %d, want %d", len(c.x), e, at, c.want)
		}
		if _, e := TypeOf(c.p, c.x, nil); e != c.want {
			t.Errorf("TypeOf of %d nodes: %d, want %d", len(c.x), e, c.want)
		}
	}
}

func TestTypesInExpressions(t *testing.T) { // P8.2
	p := flat(t, declared+"type Round = s: seq<Round> | true witness []")
	checkProblems(t, p, given, []problem{
		{"forall x: T :: b", 0, api.ErrUnknown}, {"y + (i as List)", 2, api.ErrArgs}, {"1 + b + (i as Nope)", 4, api.ErrUnknown}, {"forall x: seq<List> :: b", 1, api.ErrArgs}, {"set x: map<int, Round> | b :: i", 2, api.ErrCycle}, {"exists x: int, y: Cell<int> :: b", 3, api.ErrArgs},
	})
	if _, e := TypeOf(p, expr(t, "exists x: Nats, y: Cell :: x[0] == y.v"), nil); e != api.OK {
		t.Errorf("types in an expression: %d", e)
	}
}
