package model

import (
	"math/rand"
	"slices"
	"strconv"
	"strings"
	"testing"

	"entail/api"
)

func TestHasSort(t *testing.T) { // P12.1
	sig := rich()
	m := first(t, sig, 2)
	m.Universes[1].Size = 3
	long := func(n int) string { return "[" + strings.TrimSuffix(times("1 ", n), " ") + "]" }
	var numbers, keys []string
	for i := range 201 {
		numbers = append(numbers, strconv.Itoa(i))
		keys = append(keys, strconv.Itoa(i)+":_!1")
	}
	for _, c := range []struct{ sort, yes, no string }{
		{"Bool", "true;false", "0;1;_!0;red"}, {"Int", "0;-5;" + times("9", 120), "1/1;true;_!1;[]"}, {"Real", "1/2;-3/1;0/1", "1;-1"}, {"E", "_!0;_!1", "_!2;_!-1;0;red"}, {"F", "_!2", "_!3"}, {"C", "red;blue", "nil;(red 1);1;_!0"},
		{"L", "nil;(cons _!1 nil);(cons _!0 (cons _!1 nil))", "cons;(cons _!0);(cons _!2 nil);(cons nil nil);(nil _!0);(cons _!0 nil nil);red"}, {"T", "(leaf 3);(node (leaf 1) (leaf 2))", "leaf;(leaf true);(node (leaf 1))"},
		{"Seq<Int>", "[];[1 2 1];" + long(200), "[true];[1 1/2];{1};" + long(201)}, {"Seq<Seq<E>>", "[[] [_!1]]", "[_!1];[[_!2]]"}, {"Set<Int>", "{};{1 2};{9 10};{7 -5};{" + strings.Join(numbers[:200], " ") + "}", "{2 1};{1 1};{10 9};{-5 7};[1];{true};{" + strings.Join(numbers, " ") + "}"},
		// Maps of a small sort have the value of its first element as their default.
		{"Map<Bool,Int>", "<0>;<0 true:1>", "<0 false:1>;<0 true:0>;<>;<0 true>;<0 true:1 true:2>;<true>;<0 1:1>;<0 true:true>"}, {"Map<E,Int>", "<0>;<0 _!1:1>", "<0 _!0:1>;<0 _!1:0>;<0 _!2:1>"}, {"Map<F,Bool>", "<false _!1:true _!2:true>", "<false _!2:true _!1:true>"},
		{"Map<C,Int>", "<5 blue:1 green:2>", "<5 green:2 blue:1>;<5 red:1>"}, {"Map<Int,E>", "<_!0>;<_!0 0:_!1 5:_!1 -3:_!1>;<_!0 " + strings.Join(keys[:32], " ") + ">", "<_!0 0:_!0>;<_!0 -3:_!1 5:_!1>;<_!0 5:_!1 0:_!1>;<_!2>;<_!0 " + strings.Join(keys[:33], " ") + ">"},
		{"Map<L,Set<E>>", "<{} nil:{_!1}>;<{_!1} (cons _!0 nil):{} nil:{}>", "<{} nil:{}>;<{} nil:{_!1 _!0}>"}, {"W", "(wrap none red);(wrap (some [none] 1/2) blue);(bare <true green:false>)", "(wrap none);(bare <true red:false>);(wrap red none)"},
		{"L", times("(cons _!0 ", 79) + "nil" + times(")", 79), times("(cons _!0 ", 80) + "nil" + times(")", 80)}, {"Seq<Seq<Int>>", "[" + times(long(200)+" ", 19) + long(179) + "]", "[" + times(long(200)+" ", 19) + long(180) + "]"},
	} {
		for _, s := range strings.Split(c.yes, ";") {
			if is, e := HasSort(sig, m, c.sort, val(s)); !is || e != api.OK {
				t.Errorf("HasSort of %s, %.80s: %v, %d", c.sort, s, is, e)
			}
		}
		for _, s := range strings.Split(c.no, ";") {
			if is, e := HasSort(sig, m, c.sort, val(s)); is || e != api.OK {
				t.Errorf("HasSort of %s, %.80s: %v, %d", c.sort, s, is, e)
			}
		}
	}
	one := []api.Value{val("1")}
	for i, c := range []struct {
		sort string
		v    api.Value
	}{
		// Fields that are not mentioned are empty, and numbers have their form.
		{"Bool", api.Value{Kind: api.VBool, Num: "1", Text: "x"}}, {"Bool", api.Value{Kind: api.VBool, Num: "1", Items: one}}, {"Bool", api.Value{Kind: api.VBool}}, {"Bool", api.Value{Kind: api.VBool, Num: "2"}}, {"Int", api.Value{Kind: api.VInt, Num: "07"}}, {"Int", api.Value{Kind: api.VInt, Num: times("9", 121)}}, {"Int", api.Value{Kind: api.VInt, Num: "7", Text: "8"}},
		{"Int", api.Value{Kind: api.VInt, Num: "7", Items: one}}, {"Int", api.Value{Kind: api.VBits, Num: "7", Text: "8"}}, {"Real", api.Value{Kind: api.VReal, Num: "2/4"}}, {"Real", api.Value{Kind: api.VReal, Num: "2"}}, {"E", api.Value{Kind: api.VRef, Num: "01"}}, {"E", api.Value{Kind: api.VRef}}, {"E", api.Value{Kind: api.VRef, Num: "1", Text: "E"}},
		{"C", api.Value{Kind: api.VCons, Text: "red", Num: "0"}}, {"Seq<Int>", api.Value{Kind: api.VSeq, Num: "0"}}, {"Seq<Int>", api.Value{Kind: api.VSeq, Text: "a"}}, {"Set<Int>", api.Value{Kind: api.VSet, Text: "a"}}, {"Set<Int>", api.Value{Kind: api.VMulti, Items: one}}, {"Map<Int,Int>", api.Value{Kind: api.VMap, Num: "0", Items: one}}, {"Int", api.Value{Kind: 77, Num: "1"}}, {"Int", api.Value{Kind: -1}},
	} {
		if is, e := HasSort(sig, m, c.sort, c.v); is || e != api.OK {
			t.Errorf("%d: HasSort of %s: %v, %d", i, c.sort, is, e)
		}
	}
	// A value that is in itself is none.
	ring := api.Value{Kind: api.VSeq, Items: make([]api.Value, 1)}
	ring.Items[0] = ring
	if is, e := HasSort(sig, m, "Seq<Int>", ring); is || e != api.OK {
		t.Errorf("HasSort of a ring: %v, %d", is, e)
	}
}

func TestCompare(t *testing.T) { // P12.1
	ascending := []api.Value{val("false"), {Kind: api.VBool, Num: "0", Text: "a"}, val("true"), val("0"), val("7"), val("-5"), val("10"), val("100"), val("1/1"), val("1/2"), val("2/1"), val("-1/1"), val("[]"), val("[1]"), val("[2]"), val("[10]"), val("[0 0]"), val("[0 1]"), val("{}"), val("{1}"), val("<0>"), val("<0 1:2>"), val("<1 1:0>"), val("A"), val("(A 1)"), val("(A 2)"), val("(A 1 1)"), val("B"), val("Ba"), val("_!0"), val("_!1")}
	ascending = append([]api.Value{{Kind: -3}}, ascending...)
	ascending = append(ascending, api.Value{Kind: api.VRef, Num: "1", Text: "x"}, api.Value{Kind: api.VRef, Num: "1", Text: "x", Items: vals("1")}, api.Value{Kind: 99}, api.Value{Kind: 99, Num: "x"})
	for i, a := range ascending {
		for j, b := range ascending {
			want := 0
			if i < j {
				want = -1
			} else if i > j {
				want = 1
			}
			if got := Compare(a, b); got != want {
				t.Errorf("Compare of %v and %v: %d", a, b, got)
			}
		}
	}
	// The order in a pool is the same one.
	p := newPool()
	for i, a := range ascending {
		for j, b := range ascending {
			left, _ := p.take(a)
			right, _ := p.take(b)
			if got := p.compare(left, right); got != Compare(a, b) || (left == right) != (i == j) {
				t.Errorf("the order of %v and %v in a pool: %d", a, b, got)
			}
		}
	}
}

func TestZero(t *testing.T) { // P12.1
	sig := rich()
	for sort, want := range map[string]string{
		"Bool": "false", "Int": "0", "Real": "0/1", "E": "_!0", "F": "_!0", "Seq<T>": "[]", "Set<Seq<T>>": "{}", "Map<E,Int>": "<0>", "Map<L,Map<Int,T>>": "<<(leaf 0)>>", "L": "nil", "T": "(leaf 0)", "C": "red",
		// W's first constructor needs a zero of X, which is found in the same round as that of C; the second one needs none but that of Bool.
		"W": "(bare <false>)", "X": "(some [] 0/1)", "Seq<Int>": "[]",
	} {
		v, e := Zero(sig, sort)
		if say(v) != want || e != api.OK {
			t.Errorf("Zero of %s: %s, %d", sort, say(v), e)
		}
		if is, e := HasSort(sig, first(t, sig, 3), sort, v); !is || e != api.OK {
			t.Errorf("Zero of %s: %s is no value of it", sort, say(v))
		}
	}
	// A datatype gets the first constructor whose fields have zeros by earlier rounds, not one of the same round.
	turned := api.Signature{Datas: []api.Datatype{{Sort: "A", Cons: []api.Cons{{Name: "a0"}}}, {Sort: "B", Cons: []api.Cons{{Name: "b1", Fields: fields("ba", "A")}, {Name: "b2", Fields: fields("bn", "Int")}}}, {Sort: "Z", Cons: []api.Cons{{Name: "z1", Fields: fields("zz", "Z")}, {Name: "z2", Fields: fields("zm", "Map<Int,B>")}, {Name: "z3", Fields: fields("zb", "B")}}}}}
	for sort, want := range map[string]string{"A": "a0", "B": "(b2 0)", "Z": "(z2 <(b2 0)>)"} {
		if v, e := Zero(turned, sort); say(v) != want || e != api.OK {
			t.Errorf("Zero of %s: %s, %d", sort, say(v), e)
		}
	}
	for _, sort := range []string{"", "G", "Seq", "Seq<G>", "Map<Int>", "bool", "Seq<Int> "} {
		if v, e := Zero(sig, sort); e != api.ErrSort || Compare(v, api.Value{}) != 0 {
			t.Errorf("Zero of %s: %s, %d", sort, say(v), e)
		}
	}
}

// tower is a signature with datatypes each of which has one constructor with some fields of the one before it.
func tower(height, width int) api.Signature {
	sig := api.Signature{Sorts: []string{"E"}}
	for i := range height {
		c := api.Cons{Name: "c" + strconv.Itoa(i)}
		inside := "E"
		if i > 0 {
			inside = "D" + strconv.Itoa(i-1)
		}
		for j := range width {
			c.Fields = append(c.Fields, api.Bound{Name: "f" + strconv.Itoa(i) + "." + strconv.Itoa(j), Sort: inside})
		}
		sig.Datas = append(sig.Datas, api.Datatype{Sort: "D" + strconv.Itoa(i), Cons: []api.Cons{c}})
	}
	return sig
}

// sizeOf returns the number of values in a value.
func sizeOf(v api.Value) int {
	n := 1
	for _, item := range v.Items {
		n += sizeOf(item)
	}
	return n
}

func TestLargeZero(t *testing.T) { // P12.1
	sig := tower(3, 20)
	m := first(t, sig, 1)
	for sort, want := range map[string]int{"D0": 21, "D1": 421, "D2": 8421} {
		v, e := Zero(sig, sort)
		if sizeOf(v) != want || e != api.OK {
			t.Errorf("Zero of %s: %d values, %d", sort, sizeOf(v), e)
		}
		v.Items[0] = val("7")
		if len(v.Items) > 1 && v.Items[1].Num == "7" {
			t.Errorf("Zero of %s shares memory", sort)
		}
		l, small, e := Elements(sig, m, sort)
		if len(l) != 1 || !small || e != api.OK || sizeOf(l[0]) != want {
			t.Errorf("Elements of %s: %d, %v, %d", sort, len(l), small, e)
		}
	}
	if is, e := HasSort(sig, m, "D1", val("c0")); is || e != api.OK {
		t.Errorf("HasSort: %v, %d", is, e)
	}
	v, _ := Zero(sig, "D2")
	if is, e := HasSort(sig, m, "D2", v); is || e != api.OK {
		t.Errorf("HasSort of a zero that is too large: %v, %d", is, e)
	}
	// A zero that no memory could hold is none of the promises, but what does not write it out works with it.
	high := tower(50, 20)
	m = first(t, high, 1)
	if is, e := Holds(high, m, read(t, high, "(forall ((x D49) (y D49)) (= ?x ?y))")); !is || e != api.OK {
		t.Errorf("Holds: %v, %d", is, e)
	}
}

func TestElements(t *testing.T) { // P12.1
	sig := rich()
	m := first(t, sig, 2)
	m.Universes[1].Size = 3
	m.Domains = []Domain{{"Int", vals("3 1 2")}, {"Seq<E>", vals("[_!1]")}, {"L", vals("(cons _!1 nil) nil")}}
	for _, c := range []struct {
		sort, want string
		small      bool
	}{
		{"Bool", "false true", true}, {"E", "_!0 _!1", true}, {"F", "_!0 _!1 _!2", true}, {"C", "red green blue", true}, {"Set<E>", "{} {_!0} {_!1} {_!0 _!1}", true}, {"Map<Bool,E>", "<_!0> <_!1 true:_!0> <_!0 true:_!1> <_!1>", true}, {"Map<E,Bool>", "<false> <true _!1:false> <false _!1:true> <true>", true},
		{"Set<C>", "{} {red} {green} {green red} {blue} {blue red} {blue green} {blue green red}", true}, {"Map<Int,Map<Seq<Int>,Map<F,Bool>>>", "<<<false>>>", false}, {"Int", "3 1 2", false}, {"Seq<E>", "[_!1]", false}, {"L", "(cons _!1 nil) nil", false}, {"Real", "0/1", false}, {"Seq<Bool>", "[]", false}, {"Set<Int>", "{}", false}, {"T", "(leaf 0)", false},
		{"W", "(bare <false>)", false}, {"Map<Int,Bool>", "<false>", false}, {"Map<F,E>", "<_!0> <_!1 _!1:_!0 _!2:_!0> <_!0 _!1:_!1> <_!1 _!2:_!0> <_!0 _!2:_!1> <_!1 _!1:_!0> <_!0 _!1:_!1 _!2:_!1> <_!1>", true}, {"Set<Set<F>>", "{}", false},
	} {
		l, small, e := Elements(sig, m, c.sort)
		if sayAll(l) != c.want || small != c.small || e != api.OK {
			t.Errorf("Elements of %s: %s, %v, %d", c.sort, sayAll(l), small, e)
		}
	}
	l, _, _ := Elements(sig, m, "Int")
	l[0].Num = "99"
	if m.Domains[0].Values[0].Num != "3" {
		t.Errorf("Elements shares memory with the model")
	}
	if l, small, e := Elements(sig, m, "Nowhere"); l != nil || small || e != api.ErrSort {
		t.Errorf("Elements: %v, %v, %d", l, small, e)
	}
}

func TestSmallSorts(t *testing.T) { // P12.1
	sig := rich()
	m := first(t, sig, 1)
	m.Universes[1].Size = 3
	// A sort with 64 elements at most is small; each map to a sort with one element is the same one.
	for sort, want := range map[string]int{"Map<Int,E>": 1, "Map<Seq<L>,Map<Real,E>>": 1, "Map<Set<C>,E>": 1, "Map<E,C>": 3, "Set<Set<C>>": 0, "Map<Set<E>,Set<F>>": 64, "Map<Bool,Set<F>>": 64, "Map<C,Map<Bool,Bool>>": 64, "Map<F,Map<Bool,F>>": 0, "Map<Set<C>,Bool>": 0, "Set<Map<Bool,F>>": 0, "Set<Map<E,F>>": 8, "Map<F,F>": 27, "Map<F,Set<E>>": 8, "Map<F,Map<E,Set<E>>>": 8, "Map<F,Map<Bool,Bool>>": 64, "Seq<E>": 0, "Set<E>": 2} {
		l, small, e := Elements(sig, m, sort)
		if small != (want > 0) || small && len(l) != want || e != api.OK {
			t.Errorf("Elements of %s: %d, %v, %d", sort, len(l), small, e)
		}
	}
	for n, want := range map[int]int{6: 64, 7: 1} {
		cut := api.Signature{Datas: []api.Datatype{{Sort: "D"}}}
		for i := range n {
			cut.Datas[0].Cons = append(cut.Datas[0].Cons, api.Cons{Name: "k" + strconv.Itoa(i)})
		}
		l, small, e := Elements(cut, first(t, cut, 1), "Set<D>")
		if len(l) != want || small != (want == 64) || e != api.OK {
			t.Errorf("Elements of sets of %d: %d, %v, %d", n, len(l), small, e)
		}
	}
}

func TestPartsOfElements(t *testing.T) { // P12.1
	// Sets and the keys of maps are made of the first 7 elements, which are others than the first ones of more.
	w := newWorld(example(), []int{2})
	for sort, want := range map[string]string{"Set<L>": "{(cons _!0 (cons _!1 nil))}", "Map<L,Bool>": "<false (cons _!0 (cons _!1 nil)):true>"} {
		l := w.elements(scope{w.sort(sort), maxFirst, noDepth})
		if got := say(w.giver().give(l[8])); len(l) != 65 || got != want {
			t.Errorf("the element 8 of %s: %s", sort, got)
		}
	}
	for n, want := range map[int]string{3: "nil (cons _!0 nil) (cons _!1 nil)", 4: "nil (cons _!0 nil) (cons _!0 (cons _!0 nil)) (cons _!0 (cons _!1 nil))"} {
		g := w.giver()
		var l []api.Value
		for _, place := range w.elements(scope{w.sort("L"), n, noDepth}) {
			l = append(l, g.give(place))
		}
		if sayAll(l) != want {
			t.Errorf("the first %d elements of L: %s", n, sayAll(l))
		}
	}
}

// naive lists elements by the words of the chapter, as texts.
type naive struct {
	sig   api.Signature
	sizes map[string]int
}

func (n naive) parts(sort string) (string, []string) { return brackets(sort) }

func cutTo(l []string, n int) []string { return l[:min(len(l), n)] }

// elements returns the first n elements of a sort, to a depth if that is not -1.
func (x naive) elements(sort string, n, depth int) []string {
	var out []string
	word, parts := x.parts(sort)
	switch {
	case sort == "Bool":
		out = []string{"false", "true"}
	case sort == "Int" || sort == "Real":
		for i := range n {
			s := strconv.Itoa((i + 1) / 2 * (2*(i%2) - 1))
			if sort == "Real" {
				s += "/1"
			}
			out = append(out, s)
		}
	case x.sizes[sort] > 0:
		for i := range x.sizes[sort] {
			out = append(out, "_!"+strconv.Itoa(i))
		}
	case word == "Seq":
		digits := x.elements(parts[0], n, depth)
		last := []string{""}
		for len(out) < n && len(last) > 0 {
			var next []string
			for _, s := range last {
				out = append(out, "["+s+"]")
				for _, d := range digits {
					if len(next) < n {
						next = append(next, strings.TrimLeft(s+" "+d, " "))
					}
				}
			}
			last = next
		}
	case word == "Set":
		e := x.elements(parts[0], 7, depth)
		for bits := range 1 << len(e) {
			var l []api.Value
			for i := range e {
				if bits>>i&1 == 1 {
					l = append(l, val(e[i]))
				}
			}
			slices.SortFunc(l, Compare)
			out = append(out, "{"+sayAll(l)+"}")
		}
	case word == "Map":
		out = x.maps(parts[0], parts[1], n, depth)
	default:
		out = x.data(sort, n, depth)
	}
	return cutTo(out, n)
}

func (x naive) maps(key, value string, n, depth int) []string {
	keys, values := x.elements(key, 7, depth), x.elements(value, n, depth)
	var out []string
	if len(values) == 0 {
		return nil
	}
	at := make([]int, len(keys)+1)
	for at[len(keys)] == 0 && len(out) < n {
		entries := map[string]string{}
		for i, k := range keys {
			entries[k] = values[at[i]]
		}
		out = append(out, x.mapText(key, entries, values[0]))
		i := 0
		for i < len(keys) && at[i] == len(values)-1 {
			at[i] = 0
			i++
		}
		at[i]++
	}
	return out
}

// mapText returns the text of the map with some entries, and a value for all other keys.
func (x naive) mapText(key string, entries map[string]string, other string) string {
	standard := other
	all := x.elements(key, 65, -1)
	if len(all) < 65 {
		for _, k := range all {
			if _, found := entries[k]; !found {
				entries[k] = other
			}
		}
		standard = entries[all[0]]
	}
	var keys []api.Value
	for k, v := range entries {
		if v != standard {
			keys = append(keys, val(k))
		}
	}
	slices.SortFunc(keys, Compare)
	out := "<" + standard
	for _, k := range keys {
		out += " " + say(k) + ":" + entries[say(k)]
	}
	return out + ">"
}

func (x naive) data(sort string, n, depth int) []string {
	at := slices.IndexFunc(x.sig.Datas, func(d api.Datatype) bool { return d.Sort == sort })
	if depth < 0 {
		var lengths []int
		k := len(x.sig.Datas)
		for d := 0; ; d++ {
			l := x.data(sort, n, d)
			lengths = append(lengths, len(l))
			if len(l) == n || d > k && len(slices.Compact(slices.Clone(lengths[d-k-1:]))) == 1 {
				return l
			}
		}
	}
	if depth == 0 {
		return nil
	}
	var out []string
	for _, c := range x.sig.Datas[at].Cons {
		lists := []string{""}
		for _, f := range c.Fields {
			var longer []string
			for _, before := range lists {
				for _, v := range x.elements(f.Sort, n, depth-1) {
					if len(longer) < n {
						longer = append(longer, before+" "+v)
					}
				}
			}
			lists = longer
		}
		for _, l := range lists {
			if l == "" {
				out = append(out, c.Name)
			} else {
				out = append(out, "("+c.Name+l+")")
			}
		}
	}
	return cutTo(out, n)
}

// randomSort returns a sort of a signature.
func randomSort(r *rand.Rand, sig api.Signature, depth int) string {
	plain := []string{"Bool", "Int", "Real"}
	plain = append(plain, sig.Sorts...)
	for _, d := range sig.Datas {
		plain = append(plain, d.Sort, d.Sort)
	}
	if depth > 0 {
		switch r.Intn(8) {
		case 0:
			return "Seq<" + randomSort(r, sig, depth-1) + ">"
		case 1:
			return "Set<" + randomSort(r, sig, depth-1) + ">"
		case 2:
			return "Map<" + randomSort(r, sig, depth-1) + "," + randomSort(r, sig, depth-1) + ">"
		}
	}
	return plain[r.Intn(len(plain))]
}

// randomSignature returns a signature that is right, with a few datatypes.
func randomSignature(r *rand.Rand) api.Signature {
	for {
		sig := api.Signature{Sorts: []string{"E", "F"}}
		for i := range 1 + r.Intn(3) {
			sig.Datas = append(sig.Datas, api.Datatype{Sort: "D" + strconv.Itoa(i)})
		}
		for i := range sig.Datas {
			for j := range 1 + r.Intn(3) {
				c := api.Cons{Name: "c" + strconv.Itoa(i) + strconv.Itoa(j)}
				for k := range r.Intn(3) {
					c.Fields = append(c.Fields, api.Bound{Name: "f" + strconv.Itoa(i) + strconv.Itoa(j) + strconv.Itoa(k), Sort: randomSort(r, sig, 1)})
				}
				sig.Datas[i].Cons = append(sig.Datas[i].Cons, c)
			}
		}
		if _, e := First(sig, 1); e == api.OK {
			return sig
		}
	}
}

func TestListedElements(t *testing.T) { // P12.1
	for seed := range int64(60) {
		r := rand.New(rand.NewSource(seed))
		sig := randomSignature(r)
		sizes := []int{1 + r.Intn(3), 1 + r.Intn(3)}
		w := newWorld(sig, sizes)
		x := naive{sig, map[string]int{"E": sizes[0], "F": sizes[1]}}
		m := first(t, sig, 1)
		m.Universes[0].Size, m.Universes[1].Size = sizes[0], sizes[1]
		for range 4 {
			sort := randomSort(r, sig, 2)
			for _, n := range []int{3, 7, 65} {
				got := w.elements(scope{w.sort(sort), n, noDepth})
				g := w.giver()
				var l []api.Value
				for _, place := range got {
					l = append(l, g.give(place))
				}
				if want := strings.Join(x.elements(sort, n, -1), " "); sayAll(l) != want {
					t.Errorf("seed %d: the first %d elements of %s: %s, want %s", seed, n, sort, sayAll(l), want)
				}
				checkListed(t, sig, m, sort, l, w, got)
			}
		}
	}
}

// checkListed checks that elements are different values of their sort, unless they are too large.
func checkListed(t *testing.T, sig api.Signature, m Model, sort string, l []api.Value, w *world, places []int) {
	for i, v := range l {
		is, e := HasSort(sig, m, sort, v)
		if is == w.isTooLarge(places[i]) || e != api.OK {
			t.Errorf("the element %s of %s: %v, %d", say(v), sort, is, e)
		}
		for _, o := range l[:i] {
			if Compare(v, o) == 0 {
				t.Errorf("the element %s of %s is there twice", say(v), sort)
			}
		}
	}
}
