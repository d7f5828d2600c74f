package model

import (
	"math/rand"
	"strconv"
	"strings"
	"testing"

	"entail/api"
	"entail/term"
)

// anyValue returns a value of a sort of the rich signature with two elements in each uninterpreted sort.
func anyValue(r *rand.Rand, w *world, sort int, depth int) int {
	some := func(part int) int { return anyValue(r, w, part, depth-1) }
	switch of := w.sorts[sort]; {
	case of.kind == anInt:
		return w.number(api.VInt, strconv.Itoa(r.Intn(9)-4))
	case of.kind == aReal:
		return w.number(api.VReal, strconv.Itoa(2*r.Intn(5)-5)+"/2")
	case of.kind == aSeq && depth > 0:
		var items []int
		for range r.Intn(4) {
			items = append(items, some(of.parts[0]))
		}
		return w.list(api.VSeq, items)
	case of.kind == aSet && depth > 0:
		seen := map[int]bool{}
		var items []int
		for range r.Intn(4) {
			if x := some(of.parts[0]); !seen[x] {
				seen[x] = true
				items = append(items, x)
			}
		}
		return w.setOf(items)
	case of.kind == aMap && depth > 0:
		entries := map[int]int{}
		for range r.Intn(4) {
			entries[some(of.parts[0])] = some(of.parts[1])
		}
		return w.mapOf(sort, entries, some(of.parts[1]))
	}
	l := w.elements(scope{sort, 20, noDepth})
	return l[r.Intn(len(l))]
}

// laws are formulas that are true for all values of their variables, where S is a sort, K and V are the sorts of keys and
// values, and T is that of elements.
var laws = map[string][]string{
	"Map": {
		"(= (select$S (store$S ?m ?k ?v) ?k) ?v)", "(=> (not (= ?j ?k)) (= (select$S (store$S ?m ?k ?v) ?j) (select$S ?m ?j)))", "(= (store$S ?m ?k (select$S ?m ?k)) ?m)", "(= (store$S (store$S ?m ?k ?v) ?k ?w) (store$S ?m ?k ?w))",
		"(=> (not (= ?j ?k)) (= (store$S (store$S ?m ?k ?v) ?j ?w) (store$S (store$S ?m ?j ?w) ?k ?v)))", "(= (select$S (const$S ?v) ?k) ?v)", "(= (store$S (const$S ?v) ?k ?v) (const$S ?v))", "(iff (= ?m ?n) (= (select$S ?m (diff$S ?m ?n)) (select$S ?n (diff$S ?m ?n))))", "(=> (= ?m ?n) (= (select$S ?m ?k) (select$S ?n ?k)))",
		"(= (store$S (store$S ?m ?j ?w) ?k (select$S ?m ?k)) (ite (= ?j ?k) ?m (store$S ?m ?j ?w)))", "(=> (= (store$S ?m ?k ?v) ?n) (= (select$S ?n ?k) ?v))",
	},
	"Seq": {
		"(= (len$S (cat$S ?a ?b)) (+ (len$S ?a) (len$S ?b)))", "(= (cat$S ?a (cat$S ?b ?c)) (cat$S (cat$S ?a ?b) ?c))", "(= (cat$S ?a empty$S) ?a)", "(= (cat$S empty$S ?a) ?a)", "(= (len$S (one$S ?x)) 1)", "(= (at$S (one$S ?x) 0) ?x)", "(= (len$S (put$S ?a ?i ?x)) (len$S ?a))",
		"(= (at$S (cat$S ?a ?b) ?i) (ite (< ?i (len$S ?a)) (at$S ?a ?i) (at$S ?b (- ?i (len$S ?a)))))", "(= (at$S (put$S ?a ?i ?x) ?j) (ite (and (= ?i ?j) (<= 0 ?i) (< ?i (len$S ?a))) ?x (at$S ?a ?j)))", "(= (cut$S (cat$S ?a ?b) 0 (len$S ?a)) ?a)", "(= (cut$S (cat$S ?a ?b) (len$S ?a) (len$S (cat$S ?a ?b))) ?b)",
		"(=> (and (<= 0 ?i) (<= ?i (len$S ?a))) (= (cat$S (cut$S ?a 0 ?i) (cut$S ?a ?i (len$S ?a))) ?a))", "(= (cut$S ?a ?i ?j) (cut$S ?a (ite (< ?i 0) 0 ?i) ?j))", "(=> (and (<= 0 ?i) (<= ?i ?j) (<= ?j (len$S ?a))) (= (len$S (cut$S ?a ?i ?j)) (- ?j ?i)))", "(pre$S ?a (cat$S ?a ?b))", "(iff (pre$S ?a ?b) (= ?a (cut$S ?b 0 (len$S ?a))))",
		"(iff (= ?a ?b) (and (= (len$S ?a) (len$S ?b)) (= (at$S ?a (diff$S ?a ?b)) (at$S ?b (diff$S ?a ?b)))))", "(=> (and (<= 0 ?i) (< ?i (diff$S ?a ?b))) (= (at$S ?a ?i) (at$S ?b ?i)))", "(=> (and (pre$S ?a ?b) (pre$S ?b ?a)) (= ?a ?b))", "(<= 0 (len$S ?a))",
	},
	"Set": {
		"(iff (has$S (join$S ?a ?b) ?x) (or (has$S ?a ?x) (has$S ?b ?x)))", "(iff (has$S (meet$S ?a ?b) ?x) (and (has$S ?a ?x) (has$S ?b ?x)))", "(iff (has$S (less$S ?a ?b) ?x) (and (has$S ?a ?x) (not (has$S ?b ?x))))", "(iff (has$S (one$S ?x) ?y) (= ?x ?y))", "(not (has$S empty$S ?x))", "(= (join$S ?a ?b) (join$S ?b ?a))",
		"(= (meet$S ?a ?b) (meet$S ?b ?a))", "(= (join$S ?a (meet$S ?a ?b)) ?a)", "(= (meet$S ?a (join$S ?b ?c)) (join$S (meet$S ?a ?b) (meet$S ?a ?c)))", "(iff (sub$S ?a ?b) (= (join$S ?a ?b) ?b))", "(iff (sub$S ?a ?b) (= (less$S ?a ?b) empty$S))", "(= (+ (size$S (join$S ?a ?b)) (size$S (meet$S ?a ?b))) (+ (size$S ?a) (size$S ?b)))",
		"(= (join$S (less$S ?a ?b) (meet$S ?a ?b)) ?a)", "(iff (= ?a ?b) (iff (has$S ?a (diff$S ?a ?b)) (has$S ?b (diff$S ?a ?b))))", "(iff (= (size$S ?a) 0) (= ?a empty$S))", "(= (size$S (one$S ?x)) 1)",
	},
}

func TestLaws(t *testing.T) { // P12.4
	sig := rich()
	m := first(t, sig, 2)
	variables := []string{"mS", "nS", "aS", "bS", "cS", "k1", "j1", "x1", "y1", "v2", "w2"} // with the kinds of their sorts
	for _, sort := range []string{"Map<Int,E>", "Map<C,Int>", "Map<E,Set<E>>", "Map<L,Bool>", "Map<Bool,Map<E,Int>>", "Map<Seq<Int>,Seq<E>>", "Seq<Int>", "Seq<L>", "Seq<Seq<E>>", "Seq<Map<E,Bool>>", "Set<Int>", "Set<E>", "Set<Seq<Int>>", "Set<W>"} {
		word, parts := brackets(sort)
		for _, law := range laws[word] {
			vars := []api.Bound{}
			for _, v := range variables {
				name, kind := v[:1], v[1:]
				switch {
				case word == "Seq" && (name == "k" || name == "j"):
					continue
				case kind == "S":
					vars = append(vars, api.Bound{Name: name, Sort: sort})
				case kind == "1":
					vars = append(vars, api.Bound{Name: name, Sort: parts[0]})
				case word == "Map":
					vars = append(vars, api.Bound{Name: name, Sort: parts[1]})
				}
			}
			if word == "Seq" {
				vars = append(vars, fields("i", "Int", "j", "Int")...)
			}
			x := read(t, sig, strings.ReplaceAll(law, "$S", "$"+sort), vars...)
			checkLaw(t, sig, m, law, x, vars)
		}
	}
}

// checkLaw checks that a formula is true for values of its variables.
func checkLaw(t *testing.T, sig api.Signature, m Model, law string, x api.Terms, vars []api.Bound) {
	r := rand.New(rand.NewSource(int64(len(law))))
	for range 25 {
		w := newWorld(sig, []int{2, 2})
		var l []Assigned
		for _, v := range vars {
			l = append(l, Assigned{v.Name, w.giver().give(anyValue(r, w, w.sort(v.Sort), 3))})
		}
		if is, e := Eval(sig, m, l, x); say(is) != "true" || e != api.OK {
			t.Errorf("%s: %s, %d for %v", law, say(is), e, l)
			return
		}
	}
}

func TestMapsAreEqual(t *testing.T) { // P12.4
	sig := rich()
	m := first(t, sig, 2)
	r := rand.New(rand.NewSource(7))
	for _, sort := range []string{"Map<E,Bool>", "Map<C,E>", "Map<Int,E>", "Map<L,Bool>"} {
		w := newWorld(sig, []int{2, 2})
		key := w.sorts[w.sort(sort)].parts[0]
		for range 40 {
			a, b := anyValue(r, w, w.sort(sort), 1), anyValue(r, w, w.sort(sort), 1)
			same := true
			for _, k := range append(w.keysOf(a, b), w.all(key)...) {
				left, _ := Apply(sig, m, "select$"+sort, []api.Value{w.giver().give(a), w.giver().give(k)})
				right, _ := Apply(sig, m, "select$"+sort, []api.Value{w.giver().give(b), w.giver().give(k)})
				same = same && Compare(left, right) == 0
			}
			if same != (Compare(w.giver().give(a), w.giver().give(b)) == 0) {
				t.Errorf("%s and %s", say(w.giver().give(a)), say(w.giver().give(b)))
			}
		}
	}
}

// randomModel returns a model of a signature in which some results are not zero.
func randomModel(t *testing.T, r *rand.Rand, sig api.Signature) Model {
	size := 1 + r.Intn(3)
	m := first(t, sig, size)
	sizes := []int{}
	for range sig.Sorts {
		sizes = append(sizes, size)
	}
	w := newWorld(sig, sizes)
	for range 12 {
		f := sig.Funs[r.Intn(len(sig.Funs))]
		var args []api.Value
		for _, sort := range f.Args {
			args = append(args, w.giver().give(anyValue(r, w, w.sort(sort), 1)))
		}
		out, e := Set(sig, m, f.Name, args, w.giver().give(anyValue(r, w, w.sort(f.Sort), 1)))
		if e != api.OK {
			t.Fatal(f, e)
		}
		m = out
	}
	m.Domains = []Domain{{"Int", vals("0 2 -1")}}
	return m
}

func TestMeaning(t *testing.T) { // P12.4
	sig := api.Signature{Sorts: []string{"E"}, Funs: []api.Fun{fun("a", "E"), fun("f", "E", "E"), fun("p", "E", "Bool"), fun("q", "Bool"), fun("i", "Int"), fun("g", "Int", "E", "Int")}}
	for seed := range int64(600) {
		r := rand.New(rand.NewSource(seed))
		c := chooser{r, sig, []string{"0", "2", "-1"}}
		m := randomModel(t, r, sig)
		vars := fields("u", "E", "n", "Int", "b", "Bool")
		sort := c.pick([]string{"Bool", "Bool", "E", "Int"})
		x := read(t, sig, c.term(sort, vars, 4), vars...)
		w := newWorld(sig, []int{m.Universes[0].Size})
		var l []Assigned
		for _, v := range vars {
			l = append(l, Assigned{v.Name, w.giver().give(anyValue(r, w, w.sort(v.Sort), 1))})
		}
		v, e := Eval(sig, m, l, x)
		if is, f := HasSort(sig, m, sort, v); e != api.OK || !is || f != api.OK {
			t.Errorf("seed %d: the value %s of the sort %s, %d", seed, say(v), sort, e)
		}
		checkSame(t, sig, m, l, x, v, "simplified", simplified)
		checkSame(t, sig, m, l, x, v, "renamed", renamed)
		if sort == api.SortBool {
			checkSame(t, sig, m, l, x, v, "normal form", term.NNF)
		}
		// Substitution is evaluation with other values of variables.
		by := read(t, sig, c.term("E", vars, 2), vars...)
		put, _ := Eval(sig, m, l, by)
		replaced, e := term.Subst(x, []term.Binding{{Name: "u", Term: by}})
		left, f := Eval(sig, m, l, replaced)
		right, g := Eval(sig, m, append([]Assigned{{"u", put}}, l[1:]...), x)
		if Compare(left, right) != 0 || e != api.OK || f != api.OK || g != api.OK {
			t.Errorf("seed %d: substituted %s, with another value %s, %d, %d, %d", seed, say(left), say(right), e, f, g)
		}
	}
}

func simplified(x api.Terms) (api.Terms, api.Errno) { return term.Simplify(x) }

// renamed returns a term with other names of bound variables.
func renamed(x api.Terms) (api.Terms, api.Errno) {
	out := make(api.Terms, len(x))
	for i, n := range x {
		var l []api.Bound
		for _, v := range n.Vars {
			l = append(l, api.Bound{Name: v.Name + "z", Sort: v.Sort})
		}
		n.Vars = l
		if n.Op == api.LVar && strings.HasPrefix(n.Name, "x") {
			n.Name += "z"
		}
		out[i] = n
	}
	if is, e := term.Alpha(x, out); !is || e != api.OK {
		return nil, api.ErrForm
	}
	return out, api.OK
}

// checkSame checks that a term has the same value in another form.
func checkSame(t *testing.T, sig api.Signature, m Model, l []Assigned, x api.Terms, want api.Value, form string, change func(api.Terms) (api.Terms, api.Errno)) {
	y, e := change(x)
	v, f := Eval(sig, m, l, y)
	if Compare(v, want) != 0 || e != api.OK || f != api.OK {
		s, _ := term.Print(x)
		t.Errorf("%s: %s, %s %s, %d, %d", s, say(want), form, say(v), e, f)
	}
}
