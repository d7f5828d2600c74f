package term

import (
	"slices"
	"strconv"
	"strings"
	"testing"

	"entail/api"
)

// sig returns the signature of the chapter's examples, with a few more functions.
func sig() api.Signature {
	list := api.Datatype{Sort: "L", Cons: []api.Cons{{Name: "nil"}, {Name: "cons", Fields: []api.Bound{{Name: "head", Sort: "E"}, {Name: "tail", Sort: "L"}}}}}
	return api.Signature{Sorts: []string{"E"}, Datas: []api.Datatype{list}, Funs: []api.Fun{
		{Name: "c", Sort: "E"}, {Name: "d", Sort: "E"}, {Name: "f", Args: []string{"E"}, Sort: "E"}, {Name: "p", Args: []string{"E"}, Sort: "Bool"}, {Name: "q", Args: []string{"E", "E"}, Sort: "Bool"},
		{Name: "n", Sort: "Int"}, {Name: "r", Sort: "Real"}, {Name: "b", Sort: "Bool"}, {Name: "g", Args: []string{"Int", "L"}, Sort: "Set<Int>"}}}
}

// data makes a datatype of constructors, each one a name and pairs of a field and a sort.
func data(sort string, constructors ...[]string) api.Datatype {
	d := api.Datatype{Sort: sort}
	for _, c := range constructors {
		made := api.Cons{Name: c[0]}
		for i := 1; i < len(c); i += 2 {
			made.Fields = append(made.Fields, api.Bound{Name: c[i], Sort: c[i+1]})
		}
		d.Cons = append(d.Cons, made)
	}
	return d
}

// manyStrings makes different strings.
func manyStrings(n int) []string {
	var l []string
	for i := range n {
		l = append(l, "s"+strconv.Itoa(i))
	}
	return l
}

func manyFields(n int) []string {
	l := []string{"many"}
	for _, s := range manyStrings(n) {
		l = append(l, s, "Int")
	}
	return l
}

func TestCheckSignature(t *testing.T) { // P9.1
	long := strings.Repeat("x", 200)
	sorts := func(l ...string) api.Signature { return api.Signature{Sorts: l} }
	datas := func(l ...api.Datatype) api.Signature { return api.Signature{Sorts: []string{"E"}, Datas: l} }
	funs := func(l ...api.Fun) api.Signature {
		s := sig()
		s.Funs = l
		return s
	}
	fun := func(name string) api.Signature { return funs(api.Fun{Name: name, Sort: "E"}) }
	var constructors [][]string
	for _, s := range manyStrings(21) {
		constructors = append(constructors, []string{s})
	}
	var manyDatas []api.Datatype
	for _, s := range manyStrings(51) {
		manyDatas = append(manyDatas, data(s, []string{"c" + s}))
	}
	var manyFuns []api.Fun
	for _, s := range manyStrings(1001) {
		manyFuns = append(manyFuns, api.Fun{Name: s, Sort: "E"})
	}
	for i, c := range []struct {
		sig  api.Signature
		want api.Errno
	}{
		{api.Signature{}, api.OK}, {sig(), api.OK},
		{sorts(manyStrings(100)...), api.OK}, {sorts(manyStrings(101)...), api.ErrMany}, {datas(manyDatas[:50]...), api.OK}, {datas(manyDatas...), api.ErrMany}, {funs(manyFuns[:1000]...), api.OK}, {funs(manyFuns...), api.ErrMany},
		{api.Signature{Sorts: []string{"a b"}, Funs: manyFuns}, api.ErrMany},
		// Sorts.
		{sorts("E", "E"), api.ErrTwice}, {sorts("E", ""), api.ErrName}, {sorts("Int"), api.ErrName}, {sorts("Bool"), api.ErrName}, {sorts("Real"), api.ErrName}, {sorts("a b"), api.ErrName}, {sorts("a\nb"), api.ErrName}, {sorts("a(b"), api.ErrName}, {sorts("a)"), api.ErrName}, {sorts("{a"), api.ErrName}, {sorts("a}"), api.ErrName}, {sorts("a<b"), api.ErrName}, {sorts("a>b<"), api.ErrName}, {sorts("a,b"), api.ErrName}, {sorts("<a>,<b>"), api.ErrName},
		{sorts("<a,b>", "M::D<Int,Seq<x>>", "Seq<E>", "Seq<Int>", "-?!=", "1", "true", "\xff\t", long), api.OK}, {sorts(long + "x"), api.ErrName},
		{api.Signature{Sorts: []string{"E"}, Datas: []api.Datatype{data("E", []string{"a"})}}, api.ErrTwice}, {api.Signature{Sorts: []string{"E", "E"}, Datas: []api.Datatype{data("Int", []string{"a"})}}, api.ErrTwice}, {datas(data("A", []string{"a"}), data("A", []string{"c"})), api.ErrTwice}, {datas(data("A"), data("A b")), api.ErrName},
		// Datatypes.
		{datas(data("A")), api.ErrEmpty}, {datas(data("A", constructors...)), api.ErrMany}, {datas(data("A", constructors[:20]...)), api.OK}, {datas(data("A", manyFields(20))), api.OK}, {datas(data("A", manyFields(21))), api.ErrMany},
		{datas(data("A", []string{"a"}, []string{"a"})), api.ErrTwice}, {datas(data("A", []string{"a", "a", "Int"})), api.ErrTwice}, {datas(data("A", []string{"a", "x", "Int", "x", "Int"})), api.ErrTwice}, {datas(data("A", []string{"a", "x", "Int"}, []string{"b", "x", "Int"})), api.ErrTwice}, {datas(data("A", []string{"a", "x", "Int"}), data("B", []string{"x"})), api.ErrTwice},
		{datas(data("A", []string{"1a"})), api.ErrName}, {datas(data("A", []string{"a", "true", "F"})), api.ErrName}, {datas(data("A", []string{"a", "x", "F"})), api.ErrSort}, {datas(data("A", []string{"a", "x", "Seq<F>"})), api.ErrSort}, {datas(data("A", []string{"a", "x", "B"}), data("B", []string{"b"})), api.OK}, {datas(data("A", []string{"a", "x", "Seq<A>"})), api.OK},
		{datas(data("A", []string{"a", "len$Seq<A>", "Int"})), api.ErrName}, {datas(data("A", []string{"a", "len$Seq<F>", "Int"})), api.OK}, {datas(data("Seq<E>", []string{"a", "len$Seq<E>", "Int"})), api.OK}, {datas(data("A", []string{"div$Int"})), api.ErrName},
		{datas(data("A", []string{"a", "is$a", "Int"})), api.ErrTwice}, {datas(data("A", []string{"a", "is$b", "Int"}), data("B", []string{"b"})), api.ErrTwice}, {datas(data("A", []string{"a", "is$x", "Int", "x", "Int"})), api.OK}, {datas(data("A", []string{"is$is$a"}, []string{"is$a"})), api.ErrTwice}, {datas(data("A", []string{"is$a", "x", "F"}, []string{"a"})), api.ErrSort}, {datas(data("A", []string{"is$a"}, []string{"a"}), data("B")), api.ErrEmpty},
		// Functions.
		{fun("g"), api.OK}, {fun(long), api.OK}, {fun(long + "x"), api.ErrName}, {fun(""), api.ErrName}, {fun("1"), api.ErrName}, {fun("-a"), api.ErrName}, {fun("?a"), api.ErrName}, {fun("!a"), api.ErrName}, {fun("=a"), api.ErrName}, {fun("=>"), api.ErrName}, {fun("a-?!=1"), api.OK}, {fun("a b"), api.ErrName}, {fun("a\n"), api.ErrName}, {fun("a("), api.ErrName}, {fun("a}"), api.ErrName},
		{fun("true"), api.ErrName}, {fun("false"), api.ErrName}, {fun("not"), api.ErrName}, {fun("and"), api.ErrName}, {fun("or"), api.ErrName}, {fun("iff"), api.ErrName}, {fun("ite"), api.ErrName}, {fun("forall"), api.ErrName}, {fun("exists"), api.ErrName}, {fun("+"), api.ErrName}, {fun("*"), api.ErrName}, {fun("<"), api.ErrName}, {fun("<="), api.ErrName}, {fun("<=="), api.OK}, {fun(">"), api.OK}, {fun("/"), api.OK}, {fun("\t"), api.OK},
		{fun("floor$Real"), api.ErrName}, {fun("real$Int"), api.ErrName}, {fun("mod$Int"), api.ErrName}, {fun("mod$Real"), api.OK}, {fun("select$Map<E,Seq<Int>>"), api.ErrName}, {fun("select$Map<E,Seq<F>>"), api.OK}, {fun("select$Map<E>"), api.OK}, {fun("has$Set<L>"), api.ErrName}, {fun("has$Seq<L>"), api.OK}, {fun("len$Seq<Map<Int,Bool>>"), api.ErrName}, {fun("len$E"), api.OK}, {fun("len"), api.OK},
		{fun("nil"), api.ErrTwice}, {fun("head"), api.ErrTwice}, {fun("is$nil"), api.ErrTwice}, {fun("is$head"), api.OK}, {funs(api.Fun{Name: "x", Sort: "E"}, api.Fun{Name: "x", Sort: "Int"}), api.ErrTwice}, {funs(api.Fun{Name: "is$x", Sort: "E"}, api.Fun{Name: "x", Sort: "Int"}), api.OK},
		{funs(api.Fun{Name: "x", Args: slices.Repeat([]string{"E"}, 20), Sort: "E"}), api.OK}, {funs(api.Fun{Name: "x", Args: slices.Repeat([]string{"F"}, 21), Sort: "E"}), api.ErrMany}, {funs(api.Fun{Name: "nil", Args: slices.Repeat([]string{"F"}, 21), Sort: "E"}), api.ErrTwice}, {funs(api.Fun{Name: "x", Args: []string{"F"}, Sort: "E"}), api.ErrSort}, {funs(api.Fun{Name: "x", Args: []string{"E"}, Sort: "F"}), api.ErrSort}, {funs(api.Fun{Name: "x", Args: []string{"E"}}), api.ErrSort},
		// Datatypes without finite elements, and those that are keys in themselves.
		{datas(data("D", []string{"more", "rest", "D"})), api.ErrCycle}, {datas(data("D", []string{"more", "rest", "C"}), data("C", []string{"back", "other", "D"})), api.ErrCycle}, {datas(data("D", []string{"more", "rest", "C"}), data("C", []string{"back", "other", "D"}, []string{"end", "x", "E"})), api.OK},
		{datas(data("D", []string{"more", "rest", "Set<D>"})), api.OK}, {datas(data("D", []string{"more", "rest", "Map<Int,D>"})), api.ErrCycle}, {datas(data("D", []string{"more", "rest", "Map<Int,Seq<D>>"})), api.OK}, {datas(data("D", []string{"more", "rest", "Map<Int,D>"}, []string{"end"})), api.OK}, {datas(data("D", []string{"more", "rest", "Seq<Map<Int,D>>"})), api.OK},
		{datas(data("D", []string{"end"}, []string{"more", "rest", "Map<D,Int>"})), api.ErrCycle}, {datas(data("D", []string{"end"}, []string{"more", "rest", "Set<Map<Seq<D>,Int>>"})), api.ErrCycle}, {datas(data("D", []string{"end"}, []string{"more", "rest", "Map<C,Int>"}), data("C", []string{"e2", "x", "D"})), api.ErrCycle}, {datas(data("D", []string{"end"}, []string{"more", "rest", "Map<C,Int>"}), data("C", []string{"e2", "x", "E"})), api.OK},
		{datas(data("D", []string{"end"}, []string{"more", "rest", "C"}), data("C", []string{"e2", "x", "Map<B,D>"}), data("B", []string{"e3", "y", "Set<D>"})), api.ErrCycle}, {datas(data("D", []string{"end"}, []string{"more", "rest", "C"}), data("C", []string{"e2", "x", "Map<B,D>"}), data("B", []string{"e3", "y", "Set<E>"})), api.OK}, {datas(data("D", []string{"a", "x", "Map<Map<Int,D>,Int>"})), api.ErrCycle},
		{api.Signature{Sorts: []string{"Map<D,Int>"}, Datas: []api.Datatype{data("D", []string{"end"}, []string{"more", "rest", "Map<D,Int>"})}}, api.OK}, {api.Signature{Datas: []api.Datatype{data("D", []string{"more", "rest", "D"})}, Funs: []api.Fun{{Name: "x", Sort: "F"}}}, api.ErrSort},
	} {
		if e := CheckSignature(c.sig); e != c.want {
			t.Errorf("%d: %d, want %d (%.200v)", i, e, c.want, c.sig)
		}
		_, _, e := Parts(c.sig, "?")
		_, f := Function(c.sig, "?")
		_, g := Check(c.sig, nil, nil)
		_, h := App(c.sig, "?")
		_, at, k := Parse(c.sig, nil, "?")
		if c.want != api.OK && !slices.Equal([]api.Errno{e, f, g, h, k}, slices.Repeat([]api.Errno{c.want}, 5)) || at != 0 {
			t.Errorf("%d: %v, want %d", i, []api.Errno{e, f, g, h, k}, c.want)
		}
	}
}

func TestParts(t *testing.T) { // P9.1
	s := sig()
	s.Sorts = append(s.Sorts, "Seq<Int>", "P<a,b>")
	for sort, want := range map[string]string{
		"Bool": "Bool", "Int": "Int", "Real": "Real", "E": "Sort", "L": "Data", "Seq<Int>": "Sort", "P<a,b>": "Sort", "Seq<E>": "Seq E", "Set<L>": "Set L", "Map<E,L>": "Map E L", "Map<P<a,b>,Map<Int,Set<E>>>": "Map P<a,b> Map<Int,Set<E>>", "Seq<Seq<Int>>": "Seq Seq<Int>",
		"": "", "F": "", "Seq": "", "Seq<>": "", "Seq<F>": "", "Seq<E": "", "Seq<E>>": "", "Seq<E,E>": "", "Map<E>": "", "Map<E,E,E>": "", "Map<E,>": "", "Map<,E>": "", "Set< E>": "", "Seq<E> ": "", "Bag<E>": "", "int": "", "Map<Seq<E,E>,E>": "", "Seq<E>x": "", "<E>": "",
	} {
		kind, parts, e := Parts(s, sort)
		if got := strings.Join(append([]string{kind}, parts...), " "); got != want || (e == api.OK) != (want != "") || e != api.OK && e != api.ErrSort {
			t.Errorf("Parts(%q): %q, %d, want %q", sort, got, e, want)
		}
	}
	s.Sorts = append(s.Sorts, "Five5", "Sixsix")
	for sort, want := range map[string]api.Errno{"Five5": api.OK, "Sixsix": api.ErrSort} {
		if _, _, e := Parts(s, strings.Repeat("Set<", 79)+sort+strings.Repeat(">", 79)); e != want {
			t.Errorf("a sort of %d bytes: %d, want %d", 395+len(sort), e, want)
		}
	}
	deep := strings.Repeat("Seq<", 79) + "Real" + strings.Repeat(">", 79)
	for sort, want := range map[string]api.Errno{deep: api.OK, strings.Repeat("Seq<", 79) + "Bool" + strings.Repeat(">", 79): api.OK, "Set<" + deep + ">": api.ErrSort} {
		if _, _, e := Parts(s, sort); e != want {
			t.Errorf("a sort of %d bytes: %d, want %d", len(sort), e, want)
		}
	}
	if len(deep) != 399 {
		t.Errorf("%d bytes", len(deep))
	}
}

func TestFunction(t *testing.T) { // P9.1
	for name, want := range map[string]string{
		"c": " E", "g": "Int,L Set<Int>", "nil": " L", "cons": "E,L L", "head": "L E", "tail": "L L", "is$nil": "L Bool", "is$cons": "L Bool", "div$Int": "Int,Int Int", "mod$Int": "Int,Int Int", "floor$Real": "Real Int", "real$Int": "Int Real",
		"select$Map<E,L>": "Map<E,L>,E L", "store$Map<E,L>": "Map<E,L>,E,L Map<E,L>", "const$Map<E,L>": "L Map<E,L>", "diff$Map<E,L>": "Map<E,L>,Map<E,L> E",
		"len$Seq<E>": "Seq<E> Int", "at$Seq<E>": "Seq<E>,Int E", "empty$Seq<E>": " Seq<E>", "one$Seq<E>": "E Seq<E>", "cat$Seq<E>": "Seq<E>,Seq<E> Seq<E>", "put$Seq<E>": "Seq<E>,Int,E Seq<E>", "cut$Seq<E>": "Seq<E>,Int,Int Seq<E>", "pre$Seq<E>": "Seq<E>,Seq<E> Bool", "diff$Seq<E>": "Seq<E>,Seq<E> Int",
		"has$Set<L>": "Set<L>,L Bool", "empty$Set<L>": " Set<L>", "one$Set<L>": "L Set<L>", "join$Set<L>": "Set<L>,Set<L> Set<L>", "meet$Set<L>": "Set<L>,Set<L> Set<L>", "less$Set<L>": "Set<L>,Set<L> Set<L>", "sub$Set<L>": "Set<L>,Set<L> Bool", "size$Set<L>": "Set<L> Int", "diff$Set<L>": "Set<L>,Set<L> L",
		"len$Seq<Map<Int,Set<Bool>>>": "Seq<Map<Int,Set<Bool>>> Int",
	} {
		f, e := Function(sig(), name)
		if got := strings.Join(f.Args, ",") + " " + f.Sort; got != want || f.Name != name || e != api.OK {
			t.Errorf("Function(%q): %q, %d, want %q", name, got, e, want)
		}
	}
	for _, name := range []string{"", "x", "is$x", "is$head", "select$Seq<E>", "len$Seq<F>", "len$", "len", "$Seq<E>", "div$Real", "real$Real", "floor$Int", "len$L", "has$Map<E,L>", "cut$Set<E>", "and", "len$$Seq<E>"} {
		if f, e := Function(sig(), name); f.Name != "" || e != api.ErrUnknown {
			t.Errorf("Function(%q): %v, %d", name, f, e)
		}
	}
	// A declared sort takes precedence, and has no functions of its own.
	s := sig()
	s.Sorts = append(s.Sorts, "Seq<E>")
	for name, want := range map[string]api.Errno{"len$Seq<E>": api.ErrUnknown, "len$Seq<Seq<E>>": api.OK, "len$Seq<Int>": api.OK} {
		if _, e := Function(s, name); e != want {
			t.Errorf("Function(%q): %d, want %d", name, e, want)
		}
	}
	s.Sorts = append(s.Sorts, "A$B")
	if f, e := Function(s, "has$Set<A$B>"); e != api.OK || f.Args[1] != "A$B" {
		t.Errorf("Function: %v, %d", f, e)
	}
	f, _ := Function(sig(), "f")
	f.Args[0] = "X"
	if again, _ := Function(sig(), "f"); again.Args[0] != "E" {
		t.Error("a function that is changed")
	}
}
