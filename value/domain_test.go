package value

import (
	"slices"
	"strconv"
	"strings"
	"testing"

	"entail/api"
	"entail/parse"
)

const declarations = "datatype M::List = M::Nil | M::Cons(head: bool, tail: M::List) datatype Box<T> = Full(x: T) | Empty datatype Color = Red | Blue type Nat = x: int | 0 <= x witness 0 type Nats = s: seq<Nat> | true witness [] " +
	"class Cell { var v: int; } datatype Two<A, B> = Both(a: A, b: Nat, c: B) type Round = s: seq<Round> | true witness [] datatype Odd = Bad(r: Round) | Ill(x: Box) | Far(x: seq<Gone<int>>) | Any(x: Nowhere) | Fine " +
	"datatype Tree = Node(l: Tree, r: Tree) | Leaf datatype Same = S(x: int) | S(x: bool) | S(y: int) datatype Twice = T(x: Twice) | T(y: Twice) | End datatype Pair = P(a: Color, b: bool, c: Cell) | Q(a: Color, b: bool) type Con = x: Red | true witness Red "

func TestHasType(t *testing.T) { // P6.4
	p := flat(t, declarations)
	for _, c := range []struct {
		typ     string
		yes, no []string
	}{
		{"bool", []string{"true", "false"}, []string{"1", "1bv1"}}, {"int", []string{"-7"}, []string{"1/1", "7bv8", "true", "#1"}}, {"real", []string{"1/2"}, []string{"1"}}, {"bv8", []string{"5bv8"}, []string{"5bv9", "5", "5bv64"}},
		{"seq<int>", []string{"[]", "[1, 2]"}, []string{"[true]", "[1, true]", "{1}", "multiset{1}", "map[]", "1"}}, {"set<int>", []string{"{}", "{1}"}, []string{"{false, 1}", "{true}", "[1]"}}, {"multiset<bool>", []string{"multiset{true, true}"}, []string{"{true}", "multiset{1}"}},
		{"map<int,bool>", []string{"map[]", "map[1 := true]"}, []string{"map[true := 1]", "map[1 := 1]", "map[1 := true, 2 := 2]", "[]"}}, {"array<int>", []string{"#0", "#99999"}, []string{"0", "[1]"}}, {"Cell", []string{"#3"}, []string{"3", "Cell()"}},
		{"Nat", []string{"-1", "3"}, []string{"3/1"}}, {"Nats", []string{"[-1]", "[]"}, []string{"[true]", "-1"}}, {"set<Nat>", []string{"{-1}"}, []string{"{1/1}"}}, {"V", []string{"1", "true", "[A()]", "#1"}, nil}, {"seq<V>", []string{"[1, true]"}, []string{"1"}},
		{"M::List", []string{"M::Nil()", "M::Cons(true, M::Nil())"}, []string{"Nil()", "M::Nil(1)", "M::Cons(true)", "M::Cons(1, M::Nil())", "M::Cons(true, true)", "M::Cons(true, M::Cons(1, M::Nil()))", "[]", "Red()"}},
		{"Box<int>", []string{"Full(1)", "Empty()"}, []string{"Full(true)", "Full()", "Empty(1)"}}, {"Box<Nat>", []string{"Full(-1)"}, []string{"Full(1/1)"}}, {"Box<V>", []string{"Full(1)", "Full([true, 1])"}, []string{"T()"}}, {"Box<Box<Cell>>", []string{"Full(Full(#1))", "Full(Empty())"}, []string{"Full(Full(1))"}},
		{"Two<int,V>", []string{"Both(1, -1, 2/1)"}, []string{"Both(1, true, 2/1)", "Both(true, 1, 1)"}},
		{"Odd", []string{"Fine()", "Far([])", "Any(1)", "Any([true])"}, []string{"Bad([])", "Ill(Empty())", "Ill(1)", "Far([1])"}}, {"Same", []string{"S(1)", "S(true)"}, []string{"S(1/1)", "S()"}},
		{"Con", nil, []string{"Red()", "1"}},
		{"Twice", []string{times("T(", 58) + "End()" + times(")", 58)}, []string{times("T(", 58) + "1" + times(")", 58)}},
	} {
		for _, s := range c.yes {
			if is, e := HasType(p, of(t, s), c.typ); !is || e != api.OK {
				t.Errorf("HasType(%s, %s): %v, %d", s, c.typ, is, e)
			}
		}
		for _, s := range c.no {
			if is, e := HasType(p, of(t, s), c.typ); is || e != api.OK {
				t.Errorf("HasType(%s, %s): %v, %d", s, c.typ, is, e)
			}
		}
	}
}

func TestTypeErrors(t *testing.T) { // P6.4
	p := flat(t, declarations)
	expression, _, _ := parse.Expression("x")
	many := "Z<" + strings.Join(names(101), ",") + ">"
	for _, c := range []struct {
		p    api.Tree
		typ  string
		want api.Errno
	}{
		{nil, "x", api.ErrEmpty}, {expression, "x", api.ErrKind}, {p, "x", api.ErrSyntax}, {p, "", api.ErrSyntax}, {p, "seq<" + times("A", 400) + ">", api.ErrLong}, {p, "Box", api.ErrArgs}, {p, "Box<int,int>", api.ErrArgs}, {p, "T<int>", api.ErrUnknown}, {p, "M::T", api.ErrUnknown},
		{p, "Red", api.ErrUnknown}, {p, "seq<Red>", api.ErrUnknown}, {p, "Nat<int>", api.ErrArgs}, {p, "Round", api.ErrCycle}, {p, "map<int,Round>", api.ErrCycle}, {p, many, api.ErrMany}, {p, "Box<" + many[:len(many)-5] + ">>", api.ErrUnknown},
	} {
		if is, e := HasType(c.p, number(1), c.typ); is || e != c.want {
			t.Errorf("HasType(%.30s): %v, %d, want %d", c.typ, is, e, c.want)
		}
		for _, size := range []int{-1, 0, 5} {
			if l, complete, e := Domain(c.p, c.typ, size); len(l) > 0 || complete || e != c.want {
				t.Errorf("Domain(%.30s, %d): %v, %v, %d, want %d", c.typ, size, l, complete, e, c.want)
			}
		}
	}
	if is, e := HasType(nil, api.Value{}, "x"); is || e != api.ErrForm {
		t.Errorf("HasType of no value: %v, %d", is, e)
	}
	for _, size := range []int{-1, 5, 100} {
		if l, complete, e := Domain(p, "int", size); len(l) > 0 || complete || e != api.ErrRange {
			t.Errorf("Domain of the size %d: %v, %v, %d", size, l, complete, e)
		}
	}
}

func names(n int) []string {
	var l []string
	for i := range n {
		l = append(l, string(rune('A'+i/26))+string(rune('a'+i%26)))
	}
	return l
}

// shown writes the strings of a domain.
func shown(l []api.Value) string {
	var texts []string
	for _, v := range l {
		texts = append(texts, textOf(v))
	}
	return strings.Join(texts, "; ")
}

func TestDomain(t *testing.T) { // P6.4
	p := flat(t, declarations)
	for _, c := range []struct {
		typ      string
		size     int
		want     string
		complete bool
	}{
		{"bool", 0, "false; true", true}, {"bool", 4, "false; true", true}, {"int", 0, "0", false}, {"int", 2, "0; 1; -1; 2; -2", false}, {"Nat", 1, "0; 1; -1", false}, {"real", 0, "0/1", false}, {"real", 2, "0/1; 1/1; -1/1; 2/1; -2/1; 1/2; -1/2", false},
		{"bv1", 0, "0bv1; 1bv1", true}, {"bv2", 4, "0bv2; 1bv2; 2bv2; 3bv2", true}, {"bv5", 0, "0bv5", false}, {"bv5", 2, "0bv5; 1bv5; 2bv5; 31bv5", false}, {"bv64", 1, "0bv64; 1bv64; 18446744073709551615bv64", false},
		{"seq<bool>", 0, "[]", false}, {"seq<bool>", 1, "[]; [false]; [true]", false}, {"seq<int>", 2, "[]; [0]; [1]; [-1]; [0, 0]; [0, 1]; [0, -1]; [1, 0]; [1, 1]; [1, -1]; [-1, 0]; [-1, 1]; [-1, -1]", false}, {"seq<Cell>", 3, "[]", false},
		{"set<bool>", 3, "{}; {false}; {true}; {false, true}", false}, {"set<int>", 2, "{}; {0}; {1}; {-1}; {0, 1}; {-1, 0}; {-1, 1}", false}, {"multiset<bool>", 2, "multiset{}; multiset{false}; multiset{true}; multiset{false, false}; multiset{false, true}; multiset{true, true}", false},
		{"multiset<int>", 2, "multiset{}; multiset{0}; multiset{1}; multiset{-1}; multiset{0, 0}; multiset{0, 1}; multiset{-1, 0}; multiset{1, 1}; multiset{-1, 1}; multiset{-1, -1}", false},
		{"map<int,bool>", 0, "map[]", false}, {"map<int,bool>", 1, "map[]; map[0 := false]; map[0 := true]", false}, {"map<bool,bool>", 2, "map[]; map[false := false]; map[false := true]; map[true := false]; map[true := true]; map[false := false, true := false]; map[false := false, true := true]; map[false := true, true := false]; map[false := true, true := true]", false},
		{"map<int,bv1>", 2, "map[]; map[0 := 0bv1]; map[0 := 1bv1]; map[1 := 0bv1]; map[1 := 1bv1]; map[-1 := 0bv1]; map[-1 := 1bv1]; map[0 := 0bv1, 1 := 0bv1]; map[0 := 0bv1, 1 := 1bv1]; map[0 := 1bv1, 1 := 0bv1]; map[0 := 1bv1, 1 := 1bv1]; " +
			"map[-1 := 0bv1, 0 := 0bv1]; map[-1 := 1bv1, 0 := 0bv1]; map[-1 := 0bv1, 0 := 1bv1]; map[-1 := 1bv1, 0 := 1bv1]; map[-1 := 0bv1, 1 := 0bv1]; map[-1 := 1bv1, 1 := 0bv1]; map[-1 := 0bv1, 1 := 1bv1]; map[-1 := 1bv1, 1 := 1bv1]", false},
		{"map<int,Cell>", 2, "map[]", false}, {"map<Cell,int>", 2, "map[]", false}, {"Color", 0, "Red(); Blue()", true}, {"M::List", 0, "M::Nil()", false}, {"M::List", 1, "M::Nil(); M::Cons(false, M::Nil()); M::Cons(true, M::Nil())", false},
		{"Box<Nat>", 1, "Full(0); Empty()", false}, {"Box<Box<bool>>", 2, "Full(Full(false)); Full(Full(true)); Full(Empty()); Empty()", false}, {"Two<bool,Color>", 1, "Both(false, 0, Red()); Both(false, 0, Blue()); Both(true, 0, Red()); Both(true, 0, Blue())", false},
		{"Tree", 2, "Node(Node(Leaf(), Leaf()), Node(Leaf(), Leaf())); Node(Node(Leaf(), Leaf()), Leaf()); Node(Leaf(), Node(Leaf(), Leaf())); Node(Leaf(), Leaf()); Leaf()", false},
		{"Cell", 4, "", false}, {"array<int>", 4, "", false}, {"V", 4, "", false}, {"Box<V>", 4, "Empty()", false}, {"seq<V>", 4, "[]", false}, {"Odd", 4, "Far([]); Fine()", false}, {"Con", 4, "", false}, {"seq<Con>", 4, "[]", false}, {"Pair", 1, "Q(Red(), false); Q(Red(), true); Q(Blue(), false); Q(Blue(), true)", false},
		{"Same", 1, "S(0); S(false); S(true)", false}, {"Same", 2, "S(0); S(1); S(-1); S(false); S(true)", false}, {"Nats", 1, "[]; [0]", false}, {"set<Color>", 1, "{}; {Red()}; {Blue()}", false},
	} {
		l, complete, e := Domain(p, c.typ, c.size)
		if shown(l) != c.want || complete != c.complete || e != api.OK {
			t.Errorf("Domain(%s, %d): %s, %v, %d, want %s", c.typ, c.size, shown(l), complete, e, c.want)
		}
	}
}

// TestUnsettledDomains asks for types that types.Finite has an error for: this is no error of the domain, which is not complete.
func TestUnsettledDomains(t *testing.T) { // P6.4
	p := flat(t, "datatype Grow<T> = G(g: Grow<seq<T>>) | H type S = x: S | true witness 0 datatype D = A | B(s: S) datatype L<T> = N datatype F = I | J(l: L)")
	for typ, want := range map[string]string{"Grow<int>": "G(G(H())); G(H()); H()", "D": "A()", "F": "I()"} {
		l, complete, e := Domain(p, typ, 2)
		if shown(l) != want || complete || e != api.OK {
			t.Errorf("Domain(%s, 2): %s, %v, %d, want %s", typ, shown(l), complete, e, want)
		}
	}
}

func TestLargeDomains(t *testing.T) { // P6.4, P6.5
	p := flat(t, declarations)
	for _, c := range []struct {
		typ         string
		size, count int
		first, last string
	}{
		{"seq<bool>", 4, 31, "[]", "[true, true, true, true]"}, {"seq<int>", 4, 64, "[]", "[0, 0, -3]"}, {"seq<seq<int>>", 4, 64, "[]", "[[1, 1, 1]]"}, {"set<int>", 4, 64, "{}", "{-3, -2, 3}"}, {"map<int,int>", 4, 64, "map[]", "map[0 := 1, 1 := -3]"}, {"Two<int,int>", 4, 64, "Both(0, 0, 0)", "Both(1, -1, 0)"},
	} {
		l, _, e := Domain(p, c.typ, c.size)
		if e != api.OK || len(l) != c.count || textOf(l[0]) != c.first || textOf(l[c.count-1]) != c.last {
			t.Errorf("Domain(%s, %d): %d values, %d, want %d, from %s to %s", c.typ, c.size, len(l), e, c.count, c.first, c.last)
		}
	}
	colors := "datatype Many = C0"
	for i := range 99 {
		colors += " | C" + strconv.Itoa(i+1)
	}
	l, complete, e := Domain(flat(t, colors), "Many", 0)
	if len(l) != MaxDomain || !complete || textOf(l[63]) != "C63()" || e != api.OK {
		t.Errorf("Domain of 100 constructors: %d values, %v, %d", len(l), complete, e)
	}
	// A constructor has fewer items than a value can have at most; the domain has such values nevertheless.
	wide := flat(t, "datatype Wide = W(f: bool"+times(", f: bool", 300)+")")
	l, _, e = Domain(wide, "Wide", 1)
	if len(l) != MaxDomain || e != api.OK || Check(l[0]) != api.ErrMany || len(l[0].Items) != 301 {
		t.Errorf("Domain of a wide datatype: %d values, %d", len(l), e)
	}
	deep := "datatype D4 = E datatype D3 = C3(f: D4" + times(", f: D4", 20) + ") datatype D2 = C2(f: D3" + times(", f: D3", 20) + ") datatype D1 = C1(f: D2" + times(", f: D2", 20) + ") datatype D0 = C0(f: D1" + times(", f: D1", 20) + ")"
	l, _, e = Domain(flat(t, deep), "D0", 4)
	if len(l) != 1 || e != api.OK || Check(l[0]) != api.ErrLarge {
		t.Errorf("Domain of a deep datatype: %d values, %d", len(l), e)
	}
}

func TestDomains(t *testing.T) { // P6.5
	p := flat(t, declarations)
	for _, typ := range []string{"bool", "int", "real", "bv3", "bv9", "seq<int>", "set<bool>", "set<seq<int>>", "multiset<real>", "map<int,bool>", "map<bool,seq<bool>>", "M::List", "Box<M::List>", "Two<Color,int>", "Tree", "Odd", "Same", "Twice", "Pair", "Nats", "seq<Tree>"} {
		var smaller []api.Value
		for size := range MaxSize + 1 {
			l, _, e := Domain(p, typ, size)
			if e != api.OK || len(l) > MaxDomain {
				t.Fatalf("Domain(%s, %d): %d values, %d", typ, size, len(l), e)
			}
			for i, v := range l {
				if is, e := HasType(p, v, typ); !is || e != api.OK {
					t.Errorf("Domain(%s, %d): %s, %d", typ, size, textOf(v), e)
				}
				if slices.ContainsFunc(l[:i], func(o api.Value) bool { return textOf(o) == textOf(v) }) {
					t.Errorf("Domain(%s, %d): %s is there twice", typ, size, textOf(v))
				}
			}
			if len(l) < MaxDomain {
				for _, v := range smaller {
					if !slices.ContainsFunc(l, func(o api.Value) bool { return textOf(o) == textOf(v) }) {
						t.Errorf("Domain(%s, %d): without %s", typ, size, textOf(v))
					}
				}
			}
			smaller = l
		}
	}
}
