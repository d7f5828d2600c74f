package types

import (
	"slices"
	"strings"
	"testing"

	"entail/api"
	"entail/parse"
	"entail/tree"
)

func times(s string, n int) string { return strings.Repeat(s, n) }

// program reads a flat program.
func flat(t *testing.T, s string) api.Tree {
	t.Helper()
	p, at, e := parse.Program(s)
	if e != api.OK {
		t.Fatalf("Program: %d at %d: %.40q", e, at, s[at:])
	}
	return p
}

// example is the program of the chapter.
func example(t *testing.T) api.Tree {
	return flat(t, "datatype List<T> = Nil | Cons(head: T, tail: List<T>) type Nat = x: int | 0 <= x witness 0 "+
		"class Cell { var v: int; ghost var old_v: Nat; } datatype Loop = More(rest: Loop)")
}

// texts are the strings of the types of 60 and 61 levels, and of about 400 bytes.
var (
	deepest  = times("seq<", 59) + "int" + times(">", 59)
	tooDeep  = times("seq<", 60) + "int" + times(">", 60)
	longest  = "D<" + times("Abcd,", 79) + "Ab>"
	tooLong  = "D<" + times("Abcd,", 79) + "Abc>"
	wrong    = []string{"", "x", "seq", "seq<>", "seq<int", "seq<int>>", "seq<int>x", "seq<int,int>", "seq< int>", " int", "int ", "map<int>", "map<int, int>", "map<int,int,int>", "bv", "bv0", "bv65", "bv08", "bv8<int>", "int<int>", "C<>", "C<int", "C<,>", "C<int,>", "<int>", "M::", "M::x", "M::x<int>", "M::N::C", "m::C", "M::if", "if", ">", ",", "C<int>,D", "Abcdefghijklmnopqrstuvwxyz", "C_\xff", "C\n"}
	wellMade = []string{"bool", "int", "real", "bv1", "bv64", "seq<int>", "set<bool>", "multiset<real>", "array<bv8>", "map<int,seq<bool>>", "C", "M::C", "C<int>", "M::C<int,D<E>,M::F>", "Nat", "Bv8", "T_1"}
)

func TestStrings(t *testing.T) { // P5.1, P5.4
	if len(longest) != 400 || len(tooLong) != 401 {
		t.Fatalf("%d and %d bytes", len(longest), len(tooLong))
	}
	for _, s := range slices.Concat(wellMade, []string{deepest, longest}) {
		tr, e := Tree(s)
		if e != api.OK {
			t.Errorf("Tree(%q): %d", s, e)
			continue
		}
		for _, n := range tr {
			if n.At != 0 {
				t.Errorf("Tree(%q): %v", s, tr)
			}
		}
		want, _, e := parse.Type(s)
		if e != api.OK || !tree.Same(tr, want) {
			t.Errorf("Tree(%q): %v, want %v", s, tr, want)
		}
		if again, e := Of(tr, len(tr)-1); again != s || e != api.OK {
			t.Errorf("Of the tree of %q: %q, %d", s, again, e)
		}
		head, args, e := Parts(s)
		back := head
		if len(args) > 0 {
			back += "<" + strings.Join(args, ",") + ">"
		}
		if back != s || e != api.OK {
			t.Errorf("Parts(%q): %q, %q, %d", s, head, args, e)
		}
	}
	errors := map[string]api.Errno{tooLong: api.ErrLong, times("x", 401): api.ErrLong, tooDeep: api.ErrSyntax}
	for _, s := range wrong {
		errors[s] = api.ErrSyntax
	}
	for s, want := range errors {
		if tr, e := Tree(s); e != want || tr != nil {
			t.Errorf("Tree(%q): %v, %d, want %d", s, tr, e, want)
		}
		if head, args, e := Parts(s); e != want || head != "" || len(args) > 0 {
			t.Errorf("Parts(%q): %q, %q, %d, want %d", s, head, args, e, want)
		}
		if got, e := Subst(s, nil); e != want || got != "" {
			t.Errorf("Subst(%q): %q, %d, want %d", s, got, e, want)
		}
		if l, is, e := Unify("int", s, nil); e != want || is || len(l) > 0 {
			t.Errorf("Unify(int, %q): %v, %d, want %d", s, is, e, want)
		}
		if e := Check(example(t), s, nil); e != want {
			t.Errorf("Check(%q): %d, want %d", s, e, want)
		}
		if got, e := Base(example(t), s); e != want || got != "" {
			t.Errorf("Base(%q): %q, %d, want %d", s, got, e, want)
		}
	}
	if head, args, e := Parts("map<int,seq<Nat>>"); head != "map" || !slices.Equal(args, []string{"int", "seq<Nat>"}) || e != api.OK {
		t.Errorf("Parts: %q, %q, %d", head, args, e)
	}
}

func TestOf(t *testing.T) { // P5.1
	p := flat(t, "const c: map<int, List<bv8, M::N>> := (x as real);")
	var got []string
	for i := range p {
		s, e := Of(p, i)
		if want := p[i].Op > api.TName; want != (e == api.ErrKind) || want != (s == "") {
			t.Errorf("Of node %d: %q, %d", i, s, e)
		}
		if s != "" {
			got = append(got, s)
		}
	}
	if want := []string{"int", "bv8", "M::N", "List<bv8,M::N>", "map<int,List<bv8,M::N>>", "real"}; !slices.Equal(got, want) {
		t.Errorf("Of: %q", got)
	}
	for _, node := range []int{-1, len(p)} {
		if s, e := Of(p, node); s != "" || e != api.ErrUnknown {
			t.Errorf("Of node %d: %q, %d", node, s, e)
		}
	}
	if _, e := Of(nil, 0); e != api.ErrEmpty {
		t.Errorf("Of no tree: %d", e)
	}
	if _, e := Of(api.Tree{{Op: api.EVar, Text: "X"}}, 7); e != api.ErrName {
		t.Errorf("Of no syntax tree: %d", e)
	}
	wide, _, _ := parse.Type("C<" + times("Abcdefghijklmnopqrstuvwx, ", 500) + "D>")
	if s, e := Of(wide, len(wide)-1); len(s) != 12504 || e != api.OK {
		t.Errorf("Of a wide type: %d bytes, %d", len(s), e)
	}
}

// bind makes bindings of names and types by turns.
func bind(parts ...string) []Binding {
	var l []Binding
	for i := range len(parts) / 2 {
		l = append(l, Binding{parts[2*i], parts[2*i+1]})
	}
	return l
}

func manyNames(n int) []string {
	var l []string
	for i := range n {
		l = append(l, "T"+string(rune('a'+i/26))+string(rune('a'+i%26)))
	}
	return l
}

func manyBindings(n int) []Binding {
	var l []Binding
	for _, name := range manyNames(n) {
		l = append(l, Binding{name, "int"})
	}
	return l
}

func TestSubst(t *testing.T) { // P5.1
	half := times("x", 0) + "D<" + times("Abcd,", 39) + "Ab>" // 200 bytes
	for _, c := range []struct {
		s    string
		l    []Binding
		want string
		e    api.Errno
	}{
		{"map<A,B>", bind("A", "B", "B", "int"), "map<B,int>", api.OK}, {"A", bind("A", "seq<A>"), "seq<A>", api.OK}, {"A<A>", bind("A", "int"), "A<int>", api.OK},
		{"M::A", bind("A", "int"), "M::A", api.OK}, {"C<A,M::A,seq<A>>", bind("A", "bv8"), "C<bv8,M::A,seq<bv8>>", api.OK}, {"int", bind("A", "bool"), "int", api.OK}, {"B", nil, "B", api.OK},
		{"map<A,A>", bind("A", half[:len(half)-3]+"A>"), "map<" + half[:len(half)-3] + "A>," + half[:len(half)-3] + "A>>", api.ErrLong},
		{"seq<A>", bind("A", longest), "", api.ErrLong}, {"A", bind("A", longest), longest, api.OK}, {"seq<A>", bind("A", deepest), "", api.ErrLong}, {"A", bind("A", deepest), deepest, api.OK},
		{"A", bind("a", "int"), "", api.ErrName}, {"A", bind("M::A", "int"), "", api.ErrName}, {"A", bind("", "int"), "", api.ErrName}, {"A", bind("A", "int", "A", "int"), "", api.ErrTwice},
		{"A", bind("A", "x"), "", api.ErrSyntax}, {"A", bind("A", tooLong), "", api.ErrLong}, {"A", bind("A", "x", "b", "int"), "", api.ErrSyntax}, {"A", bind("A", "int", "A", "x"), "", api.ErrTwice}, {"A", bind("b", "x"), "", api.ErrName},
		{"x", bind("b", "x"), "", api.ErrSyntax}, {"A", manyBindings(100), "A", api.OK}, {"A", manyBindings(101), "", api.ErrMany}, {"A", append(bind("b", "x"), manyBindings(100)...), "", api.ErrMany}, {"A", bind("int", "int"), "", api.ErrName},
	} {
		got, e := Subst(c.s, c.l)
		if c.e == api.ErrLong {
			c.want = ""
		}
		if got != c.want || e != c.e {
			t.Errorf("Subst(%q, %v): %q, %d, want %q, %d", c.s, c.l, got, e, c.want, c.e)
		}
	}
}

func TestUnify(t *testing.T) { // P5.1
	abc := []string{"A", "B", "C"}
	for _, c := range []struct {
		a, b string
		vars []string
		want []Binding
		is   bool
	}{
		{"map<A,seq<B>>", "map<int,A>", abc, nil, false}, {"List<A>", "List<seq<B>>", abc, bind("A", "seq<B>"), true}, {"A", "seq<A>", abc, nil, false}, {"seq<A>", "A", abc, nil, false},
		{"A", "A", abc, nil, true}, {"int", "int", nil, nil, true}, {"int", "bool", nil, nil, false}, {"A", "int", nil, nil, false}, {"A", "A", nil, nil, true}, {"bv8", "bv9", abc, nil, false},
		{"A", "B", abc, bind("A", "B"), true}, {"B", "A", abc, bind("A", "B"), true}, {"A", "B", []string{"B", "A"}, bind("B", "A"), true}, {"A", "D", abc, bind("A", "D"), true}, {"D", "A", abc, bind("A", "D"), true},
		{"map<A,B>", "map<B,int>", abc, bind("A", "int", "B", "int"), true}, {"map<B,A>", "map<A,int>", abc, bind("A", "int", "B", "int"), true}, {"map<A,map<B,C>>", "map<B,map<C,A>>", abc, bind("A", "C", "B", "C"), true},
		{"map<A,B>", "map<seq<B>,set<C>>", abc, bind("A", "seq<set<C>>", "B", "set<C>"), true}, {"map<A,B>", "map<seq<B>,set<A>>", abc, nil, false}, {"D<A>", "D<A,B>", abc, nil, false}, {"D<A>", "D", abc, nil, false},
		{"D<A>", "E<A>", abc, nil, false}, {"M::D<A>", "M::D<int>", abc, bind("A", "int"), true}, {"A<int>", "A<B>", abc, bind("B", "int"), true}, {"A<int>", "A", abc, bind("A", "A<int>"), true}, {"A<int>", "B", abc, bind("B", "A<int>"), true},
		{"map<A,map<A,A>>", "map<B,map<C,int>>", abc, bind("A", "int", "B", "int", "C", "int"), true}, {"map<C,map<A,B>>", "map<map<A,B>,map<B,A>>", abc, bind("A", "B", "C", "map<B,B>"), true},
	} {
		l, is, e := Unify(c.a, c.b, c.vars)
		if !slices.Equal(l, c.want) || is != c.is || e != api.OK {
			t.Errorf("Unify(%q, %q, %v): %v, %v, %d, want %v, %v", c.a, c.b, c.vars, l, is, e, c.want, c.is)
		}
	}
}

// doubling are two types whose unifier is as long as 2 to the power of n.
func doubling(n int) (string, string, []string) {
	names := manyNames(n + 1)
	left, right := "D<", "D<"
	for i := range n {
		left += names[i] + ","
		right += "map<" + names[i+1] + "," + names[i+1] + ">,"
	}
	return left + "int>", right + "int>", names
}

func TestUnifyErrors(t *testing.T) { // P5.1
	for n, want := range map[int]api.Errno{5: api.OK, 6: api.ErrLong, 9: api.ErrLong, 20: api.ErrLong} {
		a, b, vars := doubling(n)
		if l, is, e := Unify(a, b, vars); e != want || is != (want == api.OK) || !is && len(l) > 0 {
			t.Errorf("Unify with %d variables: %v, %v, %d, want %d", n, l, is, e, want)
		}
	}
	for _, c := range []struct {
		a, b string
		vars []string
		want api.Errno
	}{
		{"x", tooLong, []string{"a"}, api.ErrSyntax}, {"int", tooLong, []string{"a"}, api.ErrLong}, {"int", "int", []string{"a"}, api.ErrName}, {"int", "int", []string{"M::A"}, api.ErrName}, {"int", "int", []string{"A", "A"}, api.ErrTwice},
		{"int", "int", []string{"A", "A", "b"}, api.ErrTwice}, {"int", "int", []string{"A", "b", "A"}, api.ErrName}, {"int", "int", manyNames(100), api.OK}, {"int", "int", append(manyNames(100), "a"), api.ErrMany},
		{"map<A,seq<A>>", "map<" + deepest[4:len(deepest)-1] + ",B>", []string{"A", "B"}, api.OK}, {"D<A,seq<seq<A>>>", "D<" + deepest[4:len(deepest)-1] + ",B>", []string{"A", "B"}, api.ErrLong},
		{"D<B,A>", "D<seq<A>," + deepest[4:len(deepest)-1] + ">", []string{"A", "B"}, api.OK}, {"D<B,A>", "D<seq<seq<A>>," + deepest[4:len(deepest)-1] + ">", []string{"A", "B"}, api.ErrLong},
	} {
		if _, is, e := Unify(c.a, c.b, c.vars); e != c.want || is != (e == api.OK) {
			t.Errorf("Unify(%.40q, %.40q, %.9v): %v, %d, want %d", c.a, c.b, c.vars, is, e, c.want)
		}
	}
}

// smallTypes are the types over some names that are nested up to a depth.
func smallTypes(depth int, names ...string) []string {
	list := slices.Clone(names)
	if depth == 1 {
		return list
	}
	inner := smallTypes(depth-1, names...)
	for _, a := range inner {
		list = append(list, "seq<"+a+">")
		for _, b := range inner {
			list = append(list, "map<"+a+","+b+">")
		}
	}
	return list
}

func mustSubst(t *testing.T, s string, l []Binding) string {
	t.Helper()
	got, e := Subst(s, l)
	if e != api.OK {
		t.Fatalf("Subst(%q, %v): %d", s, l, e)
	}
	return got
}

func TestUnifiers(t *testing.T) { // P5.4
	types := smallTypes(2, "A", "B", "int")
	closed := smallTypes(2, "int", "bool")
	for _, a := range types {
		for _, b := range types {
			l, is, e := Unify(a, b, []string{"A", "B"})
			if e != api.OK {
				t.Fatalf("Unify(%q, %q): %d", a, b, e)
			}
			if is && mustSubst(t, a, l) != mustSubst(t, b, l) {
				t.Errorf("Unify(%q, %q): %v", a, b, l)
			}
			for _, bound := range l {
				if mustSubst(t, bound.Type, l) != bound.Type {
					t.Errorf("Unify(%q, %q): %v is not applied", a, b, l)
				}
			}
			for _, x := range closed {
				for _, y := range closed {
					values := bind("A", x, "B", y)
					if mustSubst(t, a, values) != mustSubst(t, b, values) {
						continue
					}
					// Each substitution that makes the types equal factors through the bindings.
					for _, bound := range l {
						if mustSubst(t, bound.Type, values) != mustSubst(t, bound.Name, values) {
							t.Errorf("Unify(%q, %q): %v is not general", a, b, l)
						}
					}
					if !is {
						t.Errorf("Unify(%q, %q): nothing, but %v", a, b, values)
					}
				}
			}
		}
	}
}
