package model

import (
	"math/rand"
	"slices"
	"strconv"
	"strings"
	"testing"

	"entail/api"
	"entail/term"
)

// checkModel checks that a model is right, and that all formulas are true in it.
func checkModel(t *testing.T, sig api.Signature, m Model, l []api.Terms) {
	t.Helper()
	if e := Check(sig, m); e != api.OK {
		t.Errorf("the model has the error %d", e)
	}
	for _, x := range l {
		s, _ := term.Print(x)
		if is, e := Holds(sig, m, x); !is || e != api.OK {
			text, _ := Print(sig, m)
			t.Errorf("%.200s: %v, %d in the model %s", s, is, e, text)
		}
	}
}

// checkTidy checks that a search that keeps no values finds the same model.
func checkTidy(t *testing.T, sig api.Signature, l []api.Terms, size int, want Model, found bool) {
	t.Helper()
	w, _ := worldOf(sig, size)
	s, e := newSearch(w, l)
	if e != api.OK {
		t.Fatal(e)
	}
	s.room = 0
	is, e := s.run(maxLimit)
	if is != found || e != api.OK {
		t.Errorf("a search that keeps no values: %v, %d", is, e)
	}
	if !is {
		return
	}
	got, _ := Print(sig, s.model(size))
	if text, _ := Print(sig, want); got != text {
		t.Errorf("a search that keeps no values: %s, want %s", got, text)
	}
}

func TestFind(t *testing.T) { // P12.3
	sig := rich()
	for _, c := range []struct {
		formulas string
		size     int
		want     bool
	}{
		{"", 1, true}, {"true", 3, true}, {"false", 3, false}, {"(p c);(not (p (f c)))", 1, false}, {"(p c);(not (p (f c)))", 2, true}, {"(forall ((x E)) (not (= (f ?x) ?x)));(p c)", 1, false}, {"(forall ((x E)) (not (= (f ?x) ?x)));(p c)", 2, true},
		{"(forall ((x E)) (not (= (f (f ?x)) ?x)))", 2, false}, {"(forall ((x E)) (and (not (= (f (f ?x)) ?x)) (not (= (f ?x) ?x))))", 3, true}, {"(forall ((x E)) (exists ((y E)) (= (f ?y) ?x)));(exists ((x E)) (and (p ?x) (not (p (f ?x)))))", 3, true},
		{"(< i 5);(< 3 i)", 1, true}, {"(< i 5);(< 4 i)", 1, false}, {"(< i -8)", 1, true}, {"(= (g i c) (+ i 1))", 1, true}, {"(= (* i i) 2)", 2, false}, {"(= (* 2 i) 6);(= 3 3)", 1, true}, {"(forall ((x Int)) (< (g ?x c) ?x))", 1, false}, {"(forall ((x Int)) (<= (g ?x c) ?x))", 1, true}, {"(exists ((x Int)) (= (g ?x c) (+ ?x 7)))", 1, true},
		{"(< (r 1/2) 1/2);(< -2/1 (r 1/2))", 1, true}, {"(= (r (r 1/2)) 1/4)", 1, true}, {"(forall ((x Real)) (not (= ?x (r ?x))))", 1, true}, {"(= (len$Seq<L> (one$Seq<L> d)) 2)", 1, false}, {"(is$cons d)", 1, true}, {"(is$cons (tail d))", 2, false}, {"(p (head d));(is$cons d)", 1, true},
		{"(exists ((l L)) (is$cons ?l))", 1, true}, {"(forall ((l L)) (is$nil ?l))", 1, false}, {"(has$Set<E> (s (one$Seq<Int> 0)) c)", 2, true}, {"(not (= (s (one$Seq<Int> 3)) empty$Set<E>))", 2, false}, {"(not (= (s empty$Seq<Int>) (s (one$Seq<Int> 1))))", 1, true}, {"(= (len$Seq<Int> (cat$Seq<Int> (one$Seq<Int> i) (one$Seq<Int> (g i c)))) 3)", 2, false}, {"(= (+ (* i i) (* (g i c) (g i c))) 25)", 1, false}, {"(= (+ (* i i) (* (g i c) (g i c))) 1300)", 1, false}, {"(= (head (ite (p c) nil (cons c d))) (f c));(not (= (f c) c));(= (m (store$Map<C,Int> (const$Map<C,Int> 1) red i)) (const$Map<Int,E> c))", 2, false},
		{"(= (diff$Map<Map<Bool,E>,Int> (const$Map<Map<Bool,E>,Int> i) (const$Map<Map<Bool,E>,Int> (g i c))) (store$Map<Bool,E> (const$Map<Bool,E> c) true (f c)))", 2, true},
		{"(not (= i (g i c)));(not (= (diff$Map<Map<Bool,C>,Int> (const$Map<Map<Bool,C>,Int> i) (const$Map<Map<Bool,C>,Int> (g i c))) (const$Map<Bool,C> red)))", 2, false}, {"(= (select$Map<Int,E> (m (const$Map<C,Int> 1)) 1) (f c));(not (= (f c) c))", 2, true},
	} {
		var l []api.Terms
		for _, s := range strings.Split(c.formulas, ";") {
			if s != "" {
				l = append(l, read(t, sig, s))
			}
		}
		m, is, e := Find(sig, l, c.size, 100000)
		if is != c.want || e != api.OK || !is && (m.Universes != nil || m.Domains != nil || m.Tables != nil) {
			t.Errorf("Find of %s: %v, %d", c.formulas, is, e)
		}
		checkTidy(t, sig, l, c.size, m, is)
		if is {
			checkModel(t, sig, m, l)
			if slices.ContainsFunc(m.Universes, func(u Universe) bool { return u.Size != c.size }) {
				t.Errorf("Find of %s: %v", c.formulas, m.Universes)
			}
		}
	}
}

func TestFindElements(t *testing.T) { // P12.3
	sig := example()
	sig.Funs = append(sig.Funs, fun("d", "L"), fun("e", "L"), fun("k", "L"))
	different := []string{"(is$cons d)", "(is$cons e)", "(not (= d e))", "(is$cons k)", "(not (= d k))", "(not (= e k))"}
	for n, want := range map[int]bool{3: true, 6: false} {
		// Of a sort that is not small there are three elements, two of which are no nil.
		var l []api.Terms
		for _, s := range different[:n] {
			l = append(l, read(t, sig, s))
		}
		m, is, e := Find(sig, l, 2, 1000)
		if is != want || e != api.OK {
			t.Errorf("Find of %v: %v, %d", different[:n], is, e)
		}
		if is {
			checkModel(t, sig, m, l)
		}
	}
}

func TestFindErrors(t *testing.T) { // P12.3
	sig := example()
	yes := term.Bool(true)
	for i, c := range []struct {
		l           []api.Terms
		size, limit int
		want        api.Errno
	}{
		{slices.Repeat([]api.Terms{yes}, 51), 0, 0, api.ErrMany}, {slices.Repeat([]api.Terms{yes}, 50), 1, 1, api.OK}, {[]api.Terms{yes, nil, {}}, 0, 0, api.ErrEmpty}, {[]api.Terms{yes, term.Var("x", "E")}, 0, 0, api.ErrUnknown}, {[]api.Terms{read(t, sig, "c"), nil}, 0, 0, api.ErrSort}, {[]api.Terms{yes, read(t, sig, "(+ 1 2)")}, 1, 1, api.ErrSort},
		{nil, 0, 1, api.ErrRange}, {nil, 4, 1, api.ErrRange}, {nil, -7, 1, api.ErrRange}, {nil, 1, 0, api.ErrRange}, {nil, 1, 100001, api.ErrRange}, {nil, 1, -1, api.ErrRange}, {nil, 3, 100000, api.OK},
	} {
		if m, is, e := Find(sig, c.l, c.size, c.limit); e != c.want || is != (e == api.OK) || !is && m.Tables != nil {
			t.Errorf("%d: Find: %v, %d, want %d", i, is, e, c.want)
		}
	}
}

func TestFindLimits(t *testing.T) { // P12.3
	// Each of 20 constants is 0 or 1, their sum is to be more than all of them together can be, or just that.
	var sig api.Signature
	sum := "0"
	for i := range 20 {
		sig.Funs = append(sig.Funs, fun("b"+strconv.Itoa(i), "Bool"))
		sum = "(+ " + sum + " (ite b" + strconv.Itoa(i) + " 1 0))"
	}
	if m, is, e := Find(sig, []api.Terms{read(t, sig, "(< 20 "+sum+")")}, 1, 1000); is || e != api.ErrLimit || m.Tables != nil {
		t.Errorf("Find among many candidates: %v, %d", is, e)
	}
	few := api.Signature{Funs: sig.Funs[:10]}
	short := "0"
	for i := range 10 {
		short = "(+ " + short + " (ite b" + strconv.Itoa(i) + " 1 0))"
	}
	// Of 10 constants there are 1024 candidates, as many as the limit permits.
	for s, want := range map[string]bool{"(< 10 " + short + ")": false, "(< 9 " + short + ")": true} {
		l := []api.Terms{read(t, few, s)}
		m, is, e := Find(few, l, 1, 1024)
		if is != want || e != api.OK {
			t.Errorf("Find of %s: %v, %d", s, is, e)
		}
		if is {
			checkModel(t, few, m, l)
		}
	}
	huge := times("9", 120)
	for s, want := range map[string]api.Errno{
		"(= 0 (+ " + huge + " 1))": api.ErrLarge, "(or b0 (= 0 (* " + huge + " 10)))": api.ErrLarge, "(and b0 (not b0) (= 0 (* " + huge + " 10)))": api.ErrLarge, "(forall ((x Int)) (<= ?x " + huge + "))": api.OK, "(and b0 (= b1 b0))": api.OK,
	} {
		l := []api.Terms{read(t, few, s)}
		m, is, e := Find(few, l, 1, 1000)
		if e != want && (e != api.OK || is) {
			t.Errorf("Find of %.60s: %v, %d", s, is, e)
		}
		if is {
			checkModel(t, few, m, l)
		}
	}
	// The steps of an evaluation are too many.
	many := "(forall ("
	for i := range 12 {
		many += "(v" + strconv.Itoa(i) + " Bool)"
	}
	l := []api.Terms{read(t, few, many+") (and b0"+times(" true", 100)+"))")}
	if _, is, e := Find(few, l, 1, 1000); is || e != api.ErrLimit && e != api.OK {
		t.Errorf("Find of a formula with many steps: %v, %d", is, e)
	}
	// A domain with more than 50 numbers, and a table with more than 300 entries.
	numerals := "(and"
	for i := range 30 {
		numerals += " (< " + strconv.Itoa(10*i) + " " + strconv.Itoa(10*i+5) + ")"
	}
	if m, is, e := Find(few, []api.Terms{read(t, few, numerals+" (forall ((x Int)) (<= -1 ?x)))")}, 1, 1000); is || e != api.ErrMany || m.Tables != nil {
		t.Errorf("Find with a large domain: %v, %d", is, e)
	}
	l = []api.Terms{read(t, few, numerals+")")}
	if m, is, e := Find(few, l, 1, 1000); !is || e != api.OK {
		t.Errorf("Find with many numerals: %v, %d", is, e)
	} else {
		checkModel(t, few, m, l)
	}
	table := api.Signature{Sorts: []string{"E"}, Funs: []api.Fun{fun("q", "E", "E", "E", "E", "E", "E", "Bool")}}
	all := "(forall ((a E) (b E) (c E) (d E) (e E) (f E)) "
	if m, is, e := Find(table, []api.Terms{read(t, table, all+"(q ?a ?b ?c ?d ?e ?f))")}, 3, 100000); is || e != api.ErrMany || m.Tables != nil {
		t.Errorf("Find with a long table: %v, %d", is, e)
	}
	l = []api.Terms{read(t, table, all+"(not (q ?a ?b ?c ?d ?e ?f)))")}
	if m, is, e := Find(table, l, 3, 100000); is {
		checkModel(t, table, m, l)
	} else if e != api.ErrMany {
		t.Errorf("Find with a long table: %v, %d", is, e)
	}
}

func TestFindLarge(t *testing.T) { // P12.3
	// Zeros and elements that are no values.
	big := tower(3, 20)
	big.Funs = []api.Fun{fun("q", "D2", "Bool")}
	l := []api.Terms{read(t, big, "(forall ((x D2)) (= ?x ?x))")}
	if m, is, e := Find(big, l, 1, 10); is {
		checkModel(t, big, m, l)
	} else if e != api.ErrLarge {
		t.Errorf("Find beside a zero that is too large: %v, %d", is, e)
	}
	big.Funs = []api.Fun{fun("q", "D2")}
	if m, is, e := Find(big, []api.Terms{term.Bool(true)}, 1, 10); is || e != api.ErrLarge || m.Tables != nil {
		t.Errorf("Find with a zero that is too large: %v, %d", is, e)
	}
	// Of the maps of a sort with 40 elements the second one has 39 keys.
	wide := api.Signature{Datas: []api.Datatype{{Sort: "D"}}, Funs: []api.Fun{fun("q", "Map<D,Bool>")}}
	for i := range 20 {
		wide.Datas[0].Cons = append(wide.Datas[0].Cons, api.Cons{Name: "k" + strconv.Itoa(i), Fields: fields("x"+strconv.Itoa(i), "Bool")})
	}
	for s, want := range map[string]api.Errno{"(not (select$Map<D,Bool> q (k0 false)))": api.OK, "(select$Map<D,Bool> q (k0 false))": api.ErrLarge, "(select$Map<D,Bool> q (k0 true))": api.OK} {
		l := []api.Terms{read(t, wide, s)}
		m, is, e := Find(wide, l, 1, 1000)
		if e != want && e != api.ErrLarge {
			t.Errorf("Find of %s: %v, %d", s, is, e)
		}
		if is {
			checkModel(t, wide, m, l)
		}
	}
}

// chooser makes random terms of a signature.
type chooser struct {
	*rand.Rand
	sig  api.Signature
	ints []string
}

func (c chooser) pick(l []string) string { return l[c.Intn(len(l))] }

// term returns the text of a term of a sort with some variables.
func (c chooser) term(sort string, vars []api.Bound, depth int) string {
	var plain []string
	for _, v := range vars {
		if v.Sort == sort {
			plain = append(plain, "?"+v.Name)
		}
	}
	for _, f := range c.sig.Funs {
		if f.Sort == sort && (depth > 0 || len(f.Args) == 0) {
			plain = append(plain, f.Name)
		}
	}
	switch sort {
	case api.SortInt:
		plain = append(plain, c.ints...)
	case api.SortBool:
		if depth > 0 {
			return c.formula(vars, depth-1)
		}
		plain = append(plain, "true", "false")
	}
	name := c.pick(plain)
	i := slices.IndexFunc(c.sig.Funs, func(f api.Fun) bool { return f.Name == name })
	if i < 0 || len(c.sig.Funs[i].Args) == 0 {
		if sort == api.SortInt && depth > 0 && c.Intn(4) == 0 {
			return "(" + c.pick([]string{"+", "-", "*"}) + " " + c.term(sort, vars, depth-1) + " " + c.term(sort, vars, depth-1) + ")"
		}
		return name
	}
	out := "(" + name
	for _, arg := range c.sig.Funs[i].Args {
		out += " " + c.term(arg, vars, depth-1)
	}
	return out + ")"
}

// formula returns the text of a formula.
func (c chooser) formula(vars []api.Bound, depth int) string {
	sorts := []string{"E", "Int", "Bool"}
	two := func(sort string) string {
		return " " + c.term(sort, vars, depth) + " " + c.term(sort, vars, depth) + ")"
	}
	switch c.Intn(12) {
	case 0, 1:
		return "(not " + c.term(api.SortBool, vars, depth) + ")"
	case 2, 3:
		return "(" + c.pick([]string{"and", "or", "=>", "iff"}) + two(api.SortBool)
	case 4:
		return "(ite " + c.term(api.SortBool, vars, depth) + two(api.SortBool)
	case 5, 6, 7:
		return "(=" + two(c.pick(sorts[:2]))
	case 8:
		return "(" + c.pick([]string{"<", "<="}) + two(api.SortInt)
	case 9, 10:
		v := api.Bound{Name: "x" + strconv.Itoa(len(vars)), Sort: c.pick(sorts)}
		return "(" + c.pick([]string{"forall", "exists"}) + " ((" + v.Name + " " + v.Sort + ")) " + c.term(api.SortBool, append(slices.Clip(vars), v), depth) + ")"
	}
	var predicates []string
	for _, f := range c.sig.Funs {
		if f.Sort == api.SortBool {
			predicates = append(predicates, f.Name)
		}
	}
	name := c.pick(predicates)
	i := slices.IndexFunc(c.sig.Funs, func(f api.Fun) bool { return f.Name == name })
	if len(c.sig.Funs[i].Args) == 0 {
		return name
	}
	out := "(" + name
	for _, arg := range c.sig.Funs[i].Args {
		out += " " + c.term(arg, vars, depth)
	}
	return out + ")"
}

// candidates visits the candidate models, by the words of the chapter, until one is right.
func candidates(t *testing.T, sig api.Signature, l []api.Terms, size int, isRight func(Model) bool) bool {
	elements := map[string][]api.Value{"Bool": vals("false true"), "E": vals("_!0 _!1 _!2")[:size]}
	ints := []string{"0", "1"}
	for _, x := range l {
		for _, n := range x {
			if k, e := strconv.Atoi(n.Name); n.Op == api.LNum && e == nil {
				for _, near := range []int{k, k + 1, k - 1} {
					if s := strconv.Itoa(near); !slices.Contains(ints, s) {
						ints = append(ints, s)
					}
				}
			}
		}
	}
	elements["Int"] = vals(strings.Join(ints, " "))
	m := first(t, sig, size)
	m.Domains = []Domain{{"Int", elements["Int"]}, {"Real", vals("0/1 1/1")}}
	var places [][2]int
	for i, f := range sig.Funs {
		lists := [][]api.Value{nil}
		for _, arg := range f.Args {
			var longer [][]api.Value
			for _, before := range lists {
				for _, v := range elements[arg] {
					longer = append(longer, append(slices.Clip(before), v))
				}
			}
			lists = longer
		}
		for j, args := range lists {
			m.Tables[i].Entries = append(m.Tables[i].Entries, Entry{args, api.Value{}})
			places = append(places, [2]int{i, j})
		}
	}
	var try func(at int) bool
	try = func(at int) bool {
		if at == len(places) {
			return isRight(m)
		}
		i, j := places[at][0], places[at][1]
		for _, v := range elements[sig.Funs[i].Sort] {
			m.Tables[i].Entries[j].Result = v
			if try(at + 1) {
				return true
			}
		}
		return false
	}
	return try(0)
}

func TestFindAll(t *testing.T) { // P12.3
	found := map[bool]int{}
	for seed := range int64(400) {
		r := rand.New(rand.NewSource(seed))
		sig := api.Signature{Sorts: []string{"E"}, Funs: []api.Fun{fun("a", "E"), fun("f", "E", "E"), fun("p", "E", "Bool"), fun("q", "Bool"), fun("i", "Int")}}
		if r.Intn(2) == 0 {
			sig.Funs = []api.Fun{fun("a", "E"), fun("b", "E"), fun("p", "E", "E", "Bool"), fun("i", "Int"), fun("j", "Int")}
		}
		c := chooser{r, sig, []string{"0", "2"}}
		var l []api.Terms
		for range 1 + r.Intn(3) {
			l = append(l, read(t, sig, c.formula(nil, 3)))
		}
		size := 1 + r.Intn(2)
		want := candidates(t, sig, l, size, func(m Model) bool {
			return !slices.ContainsFunc(l, func(x api.Terms) bool {
				is, _ := Holds(sig, m, x)
				return !is
			})
		})
		m, is, e := Find(sig, l, size, 100000)
		if is != want || e != api.OK {
			t.Errorf("seed %d: Find: %v, %d, want %v", seed, is, e, want)
		}
		checkTidy(t, sig, l, size, m, is)
		if is {
			checkModel(t, sig, m, l)
		}
		found[is]++
	}
	if found[true] < 50 || found[false] < 50 {
		t.Errorf("the formulas are too easy: %v", found)
	}
}
