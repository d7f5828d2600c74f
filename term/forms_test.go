package term

import (
	"slices"
	"strings"
	"testing"

	"entail/api"
)

func TestFree(t *testing.T) { // P9.3
	for s, want := range map[string]string{
		"?x": "x:E", "(= (f ?y) (f ?x))": "y:E x:E", "(and ?u (p ?x) ?u)": "u:Bool x:E", "(forall ((y E)) (= ?x ?y))": "x:E", "(and (forall ((x E)) (p ?x)) (p ?x))": "x:E", "(forall ((x E)) (! ?z (f ?x)) (exists ((y E)) (q ?x ?y)))": "z:E", "(forall ((x Int)) (and (< ?x ?i) (exists ((i Int)) (< ?x ?i))))": "i:Int", "true": "",
	} {
		l, e := Free(read(t, s))
		var got []string
		for _, v := range l {
			got = append(got, v.Name+":"+v.Sort)
		}
		if strings.Join(got, " ") != want || e != api.OK {
			t.Errorf("Free(%s): %v, %d", s, got, e)
		}
	}
	two := api.Terms{{Op: api.LVar, Sort: "E", Name: "x"}, {Op: api.LVar, Sort: "Int", Name: "x"}, {Op: api.LApp, Sort: "E", Name: "q", Kids: []int{0, 1}}}
	if l, e := Free(two); !slices.Equal(l, []api.Bound{{Name: "x", Sort: "E"}}) || e != api.OK {
		t.Errorf("Free: %v, %d", l, e)
	}
}

func TestSubst(t *testing.T) { // P9.3
	for _, c := range []struct{ s, by, want string }{
		{"(= ?x c)", "x=(f c)", "(= (f c) c)"}, {"(= ?x ?y)", "x=?y y=?x", "(= ?y ?x)"}, {"(q ?x ?x)", "x=(f ?x)", "(q (f ?x) (f ?x))"}, {"(p c)", "x=c", "(p c)"}, {"?u", "u=(p ?x)", "(p ?x)"}, {"?x", "", "?x"},
		{"(forall ((x E)) (p ?x))", "x=c", "(forall ((x E)) (p ?x))"}, {"(forall ((y E)) (= ?x ?y))", "x=?y", "(forall ((y' E)) (= ?y ?y'))"}, {"(forall ((y E)) (= ?x ?y))", "x=(f ?y)", "(forall ((y' E)) (= (f ?y) ?y'))"}, {"(forall ((y E)) (= ?x ?y))", "y=c", "(forall ((y E)) (= ?x ?y))"}, {"(forall ((y E)) (= ?x ?y))", "y=c x=?z", "(forall ((y E)) (= ?z ?y))"},
		// What is not there does not make a variable be renamed.
		{"(forall ((y E)) (p ?y))", "x=?y", "(forall ((y E)) (p ?y))"}, {"(forall ((y E)) (= ?x ?y))", "x=?x z=?y", "(forall ((y E)) (= ?x ?y))"}, {"(forall ((y E)) (and (p ?y) (forall ((x E)) (q ?x ?y))))", "x=?y", "(forall ((y E)) (and (p ?y) (forall ((x E)) (q ?x ?y))))"},
		// New names: not free in a replacing term or inside, and no other variable of the quantifier.
		{"(exists ((y E)) (forall ((y' E)) (= ?x (f ?y))))", "x=?y", "(exists ((y' E)) (forall ((y'' E)) (= ?y (f ?y'))))"}, {"(exists ((y E)) (forall ((y' E)) (= ?x (f ?y'))))", "x=?y", "(exists ((y' E)) (forall ((y' E)) (= ?y (f ?y'))))"},
		{"(exists ((y E) (y' E)) (= ?x (f ?y)))", "x=?y", "(exists ((y'' E) (y' E)) (= ?y (f ?y'')))"}, {"(exists ((y' E) (y E)) (= ?x (f ?y)))", "x=?y", "(exists ((y' E) (y'' E)) (= ?y (f ?y'')))"},
		{"(exists ((y E) (z E)) (and (q ?y ?z) (q ?x ?w2)))", "x=?y w2=?z", "(exists ((y' E) (z' E)) (and (q ?y' ?z') (q ?y ?z)))"}, {"(exists ((y E) (y' E)) (and (q ?y ?y') (q ?x ?w2)))", "x=?y w2=?y'", "(exists ((y'' E) (y''' E)) (and (q ?y'' ?y''') (q ?y ?y')))"}, {"(exists ((y' E) (y E)) (and (q ?y ?y') (q ?x ?w2)))", "x=?y w2=?y'", "(exists ((y'' E) (y''' E)) (and (q ?y''' ?y'') (q ?y ?y')))"},
		{"(exists ((y E)) (and (q ?y ?y2) (p ?x)))", "x=?y y2=?y'", "(exists ((y'' E)) (and (q ?y'' ?y') (p ?y)))"}, {"(exists ((y E)) (and (q ?y ?w2) (p ?x)))", "x=?y", "(exists ((y' E)) (and (q ?y' ?w2) (p ?y)))"}, {"(exists ((y E)) (and (q ?y ?y') (p ?x)))", "x=?y", "(exists ((y'' E)) (and (q ?y'' ?y') (p ?y)))"},
		{"(exists ((y E)) (and (q ?y ?y') (p ?x)))", "x=?y y'=c", "(exists ((y'' E)) (and (q ?y'' c) (p ?y)))"}, {"(exists ((y E)) (! (f ?x) (f ?y)) (! ?y') (p ?y))", "x=?y", "(exists ((y'' E)) (! (f ?y) (f ?y'')) (! ?y') (p ?y''))"},
		// A variable that is renamed is one that is replaced further inside.
		{"(exists ((y E)) (exists ((y' E)) (and (q ?y ?y') (p ?x))))", "x=?y", "(exists ((y' E)) (exists ((y'' E)) (and (q ?y' ?y'') (p ?y))))"}, {"(exists ((y E)) (and (p ?x) (exists ((y E)) (p ?y))))", "x=?y", "(exists ((y' E)) (and (p ?y) (exists ((y E)) (p ?y))))"}, {"(exists ((y E)) (and (p ?x) (exists ((z E)) (q ?y ?z))))", "x=?y", "(exists ((y' E)) (and (p ?y) (exists ((z E)) (q ?y' ?z))))"},
	} {
		vars := append([]api.Bound{{Name: "w2", Sort: "E"}, {Name: "y'", Sort: "E"}, {Name: "y2", Sort: "E"}}, given...)
		x, at, e := Parse(sig(), vars, c.s)
		if e != api.OK {
			t.Fatalf("%s: %d at %d", c.s, e, at)
		}
		var l []Binding
		for _, b := range strings.Fields(strings.ReplaceAll(strings.ReplaceAll(c.by, "(f ", "(f_"), "(p ", "(p_")) {
			name, by, _ := strings.Cut(strings.ReplaceAll(b, "_", " "), "=")
			if put, _, e := Parse(sig(), vars, by); e == api.OK {
				l = append(l, Binding{name, put})
			}
		}
		got, e := Subst(x, l)
		if e != api.OK || text(t, got) != c.want {
			t.Errorf("%s with %s: %s, %d, want %s", c.s, c.by, text(t, got), e, c.want)
		}
	}
	x := read(t, "(p ?x)")
	for i, c := range []struct {
		l    []Binding
		want api.Errno
	}{
		{nil, api.OK}, {[]Binding{{"x", read(t, "c")}, {"x", nil}}, api.ErrTwice}, {[]Binding{{"x", read(t, "c")}, {"y", nil}}, api.ErrEmpty}, {[]Binding{{"", nil}}, api.ErrName}, {[]Binding{{"a b", nil}}, api.ErrName}, {[]Binding{{"x", nil}, {"", nil}}, api.ErrEmpty}, {[]Binding{{"x", api.Terms{{Op: -1}}}}, api.ErrKind}, {[]Binding{{"x", read(t, "3")}}, api.OK},
	} {
		if got, e := Subst(x, c.l); e != c.want || (got == nil) != (e != api.OK) {
			t.Errorf("%d: %d, want %d", i, e, c.want)
		}
	}
	var many []Binding
	for _, v := range manyVars(101) {
		many = append(many, Binding{v.Name, Bool(true)})
	}
	if _, e := Subst(x, many); e != api.ErrMany {
		t.Errorf("101 bindings: %d", e)
	}
	many[0].Name = ""
	if _, e := Subst(x, many[:100]); e != api.ErrName {
		t.Errorf("100 bindings: %d", e)
	}
}

func TestLargeSubst(t *testing.T) { // P9.3
	wide := func(n int) api.Terms { return read(t, "(and"+strings.Repeat(" ?u", n-1)+")") }
	deep := func(n int) api.Terms {
		return read(t, strings.Repeat("(not ", n-1)+"?u"+strings.Repeat(")", n-1))
	}
	for i, c := range []struct {
		x, by api.Terms
		want  api.Errno
	}{
		{wide(2000), wide(2000), api.ErrLarge}, {wide(3), wide(1000), api.ErrLarge}, {wide(3), wide(999), api.OK}, {wide(2), wide(1999), api.OK}, {wide(2), wide(2000), api.ErrLarge}, {deep(30), deep(31), api.OK}, {deep(30), deep(32), api.ErrDeep}, {deep(60), deep(60), api.ErrDeep}, {deep(60), wide(2000), api.ErrLarge}, {wide(3), deep(60), api.ErrDeep}, {read(t, "?u"), wide(2000), api.OK},
	} {
		if got, e := Subst(c.x, []Binding{{"u", c.by}}); e != c.want || (got == nil) != (e != api.OK) {
			t.Errorf("%d: %d, want %d", i, e, c.want)
		}
	}
}

func TestSameAndAlpha(t *testing.T) { // P9.3
	for _, c := range []struct {
		a, b        string
		same, alpha bool
	}{
		{"?x", "?x", true, true}, {"?x", "?y", false, false}, {"(p c)", "(p d)", false, false}, {"(p c)", "c", false, false}, {"1", "2", false, false}, {"(and)", "(or)", false, false},
		{"(forall ((x E)) (p ?x))", "(forall ((z E)) (p ?z))", false, true}, {"(forall ((z E)) (p ?x))", "(forall ((x E)) (p ?x))", false, false}, {"(forall ((x E)) (p ?x))", "(exists ((x E)) (p ?x))", false, false}, {"(forall ((x E) (y E)) (q ?x ?y))", "(forall ((y E) (x E)) (q ?y ?x))", false, true}, {"(forall ((x E) (y E)) (q ?x ?y))", "(forall ((y E) (x E)) (q ?x ?y))", false, false}, {"(forall ((x E)) (p ?z))", "(forall ((y E)) (p ?z))", false, true},
		{"(forall ((x E) (y E)) (p ?x))", "(forall ((x E)) (p ?x))", false, false}, {"(forall ((x E) (y E)) (p ?x))", "(forall ((x E) (y Int)) (p ?x))", false, false}, {"(forall ((x E)) (! (f ?x)) (p ?x))", "(forall ((y E)) (! (f ?y)) (p ?y))", false, true}, {"(forall ((x E)) (! (f ?x)) (p ?x))", "(forall ((y E)) (! ?y) (p ?y))", false, false}, {"(forall ((x E)) (! (f ?x)) (p ?x))", "(forall ((x E)) (p ?x))", false, false},
		{"(forall ((x E)) (exists ((x E)) (p ?x)))", "(forall ((x E)) (exists ((y E)) (p ?y)))", false, true}, {"(forall ((x E)) (exists ((x E)) (p ?x)))", "(forall ((x E)) (exists ((y E)) (p ?x)))", false, false}, {"(and (forall ((x E)) (p ?x)) (p ?x))", "(and (forall ((y E)) (p ?y)) (p ?x))", false, true}, {"(and (forall ((x E)) (p ?x)) (p ?x))", "(and (forall ((y E)) (p ?y)) (p ?y))", false, false},
	} {
		a, b := read(t, c.a), read(t, c.b)
		if Same(a, b) != c.same || Same(b, a) != c.same {
			t.Errorf("Same(%s, %s)", c.a, c.b)
		}
		for range 2 {
			if got, e := Alpha(a, b); got != c.alpha || e != api.OK {
				t.Errorf("Alpha(%s, %s): %v, %d", c.a, c.b, got, e)
			}
			a, b = b, a
		}
	}
	if !Same(nil, api.Terms{}) || Same(nil, read(t, "c")) || !Same(api.Terms{{Op: 99, Kids: []int{}}}, api.Terms{{Op: 99, Vars: []api.Bound{}}}) || Same(api.Terms{{Op: 99, Kids: []int{1}}}, api.Terms{{Op: 99}}) {
		t.Error("Same of what is no term")
	}
	// Of a variable that is bound only the place counts, but its sort is a part of it.
	a, b := read(t, "(forall ((x Bool)) ?x)"), read(t, "(forall ((y Bool)) ?y)")
	b[0].Sort = "E"
	b[1].Kids = []int{0}
	if alike, e := Alpha(a, b); alike || e != api.OK {
		t.Errorf("Alpha: %v, %d", alike, e)
	}
}

func TestNNF(t *testing.T) { // P9.4
	const a, b, c = "(p c)", "(p d)", "(p ?x)"
	fill := strings.NewReplacer("$1", a, "$2", b, "$3", c, "!1", "(not "+a+")", "!2", "(not "+b+")", "!3", "(not "+c+")")
	for s, want := range map[string]string{
		"true": "true", "(not true)": "false", "(not false)": "true", "$1": "$1", "(not $1)": "!1", "(not !1)": "$1", "(not (not !1))": "!1",
		"(and $1 $2 $3)": "(and $1 $2 $3)", "(not (and $1 $2 $3))": "(or !1 !2 !3)", "(or $1)": "(or $1)", "(not (or $1))": "(and !1)", "(and)": "(and)", "(not (and))": "(or)", "(and $1 (and $2))": "(and $1 (and $2))",
		"(=> $1 $2)": "(or !1 $2)", "(not (=> $1 $2))": "(and $1 !2)", "(iff $1 $2)": "(and (or !1 $2) (or $1 !2))", "(not (iff $1 $2))": "(and (or $1 $2) (or !1 !2))", "(= $1 $2)": "(and (or !1 $2) (or $1 !2))", "(not (= $1 $2))": "(and (or $1 $2) (or !1 !2))",
		"(ite $3 $1 $2)": "(and (or !3 $1) (or $3 $2))", "(not (ite $3 $1 $2))": "(and (or !3 !1) (or $3 !2))", "(= c d)": "(= c d)", "(not (= c d))": "(not (= c d))", "(not (< 1 2))": "(not (< 1 2))", "(not ?u)": "(not ?u)", "(= (ite $1 c d) c)": "(= (ite $1 c d) c)", "(not (= (ite (not !1) c d) c))": "(not (= (ite (not !1) c d) c))",
		"(forall ((y E)) (! (f ?y)) (=> $1 $2))": "(forall ((y E)) (! (f ?y)) (or !1 $2))", "(not (forall ((y E)) (! (f ?y)) (=> $1 $2)))": "(exists ((y E)) (! (f ?y)) (and $1 !2))", "(not (exists ((y E)) $1))": "(forall ((y E)) !1)", "(not (=> $1 (forall ((x E)) (p ?x))))": "(and $1 (exists ((x E)) (not (p ?x))))", "(forall ((y Bool)) (! (not (not ?y))) ?y)": "(forall ((y Bool)) (! (not (not ?y))) ?y)",
		"(iff (iff $1 $2) $3)": "(and (or (and (or $1 $2) (or !1 !2)) $3) (or (and (or !1 $2) (or $1 !2)) !3))", "(=> (not (and $1 !2)) (not true))": "(or (and $1 !2) false)",
	} {
		got, e := NNF(read(t, fill.Replace(s)))
		if e != api.OK || text(t, got) != fill.Replace(want) {
			t.Errorf("NNF(%s): %s, %d, want %s", s, text(t, got), e, fill.Replace(want))
		}
	}
	for _, s := range []string{"c", "1", "(ite ?u c d)"} {
		if x, e := NNF(read(t, s)); x != nil || e != api.ErrSort {
			t.Errorf("NNF(%s): %d", s, e)
		}
		if x, l, e := Skolem(read(t, s), ""); x != nil || l != nil || e != api.ErrSort {
			t.Errorf("Skolem(%s): %d", s, e)
		}
	}
	nest := func(n int, s string) string {
		return strings.Repeat("(iff ?u ", n) + s + strings.Repeat(")", n)
	}
	deep := func(n int, s string) string { return strings.Repeat("(not ", n) + s + strings.Repeat(")", n) }
	for s, want := range map[string]api.Errno{
		nest(7, "?v"): api.OK, nest(8, "?v"): api.OK, nest(9, "?v"): api.ErrLarge, nest(59, "?v"): api.ErrLarge, deep(59, "?u"): api.OK, deep(1, "(and"+strings.Repeat(" ?u", 999)+")"): api.OK, deep(1, "(and"+strings.Repeat(" ?u", 1000)+")"): api.ErrLarge, "(and" + strings.Repeat(" (not ?u)", 999) + ")": api.OK, "(not (and (not ?v)" + strings.Repeat(" ?u", 999) + "))": api.OK, "(not (and (not ?v) (not ?v)" + strings.Repeat(" ?u", 999) + "))": api.ErrLarge,
		"(forall ((x E)) (! " + strings.Repeat("(f ", 57) + "?x" + strings.Repeat(")", 57) + ") true)": api.OK,
		strings.Repeat("(=> ", 58) + "?u" + strings.Repeat(" ?u)", 58):                                 api.OK, strings.Repeat("(=> ", 59) + "?u" + strings.Repeat(" ?u)", 59): api.ErrDeep, strings.Repeat("(ite ?u ", 25) + "?u" + strings.Repeat(" ?u)", 25): api.OK, strings.Repeat("(ite ?u ", 30) + "?u" + strings.Repeat(" ?u)", 30): api.ErrDeep, "(not " + strings.Repeat("(and ", 58) + "?u" + strings.Repeat(")", 59): api.OK, strings.Repeat("(ite ?u ", 29) + "?u" + strings.Repeat(" ?u)", 29): api.OK,
		strings.Repeat("(and ", 40) + strings.Repeat("(iff ?u ", 8) + "?v" + strings.Repeat(")", 48): api.OK, strings.Repeat("(and ", 42) + strings.Repeat("(iff ?u ", 8) + "?v" + strings.Repeat(")", 50): api.OK, strings.Repeat("(and ", 43) + strings.Repeat("(iff ?u ", 8) + "?v" + strings.Repeat(")", 51): api.ErrDeep,
	} {
		x, e := NNF(read(t, s))
		if e != want || (x == nil) != (e != api.OK) || e == api.OK && CheckForm(x) != api.OK {
			t.Errorf("NNF(%.40s) of %d nodes: %d, want %d", s, len(read(t, s)), e, want)
		}
	}
}

func TestSkolem(t *testing.T) { // P9.4
	for s, want := range map[string]string{
		"(not (=> (p c) (forall ((x E)) (p ?x))))": "(and (p c) (not (p k0))) k0:E", "(p ?x)": "(p ?x)", "(exists ((y E)) (q ?x ?y))": "(q ?x k0) k0:E", "(exists ((y E) (z Int)) (and (p ?y) (< ?z 1)))": "(and (p k0) (< k1 1)) k0:E k1:Int",
		"(forall ((y E)) (exists ((z E)) (q ?y ?z)))": "(forall ((y E)) (q ?y (k0 ?y))) k0(E):E", "(forall ((y E) (a Int)) (forall ((b Bool)) (exists ((z E)) (or (q ?y ?z) (< ?a 1) ?b))))": "(forall ((y E) (a Int)) (forall ((b Bool)) (or (q ?y (k0 ?y ?a ?b)) (< ?a 1) ?b))) k0(E,Int,Bool):E",
		// The inner quantifier has the lesser node.
		"(exists ((y E)) (forall ((z E)) (exists ((w E)) (and (q ?y ?z) (p ?w)))))": "(forall ((z E)) (and (q k1 ?z) (p (k0 ?z)))) k0(E):E k1:E", "(and (exists ((y E)) (p ?y)) (exists ((y E)) (q ?y ?y)))": "(and (p k0) (q k1 k1)) k0:E k1:E", "(exists ((y E)) (exists ((z E)) (q ?y ?z)))": "(q k1 k0) k0:E k1:E",
		// Triggers of what is removed go with it, and others have the new terms.
		"(exists ((y E)) (! (f ?y)) (forall ((z E)) (! (f ?y) ?z) (q ?y ?z)))": "(forall ((z E)) (! (f k0) ?z) (q k0 ?z)) k0:E", "(forall ((z E)) (! (ite (exists ((y E)) (p ?y)) ?z c)) (p ?z))": "(forall ((z E)) (! (ite (exists ((y E)) (p ?y)) ?z c)) (p ?z))",
		"(= c (ite (exists ((y E)) (p ?y)) c d))": "(= c (ite (exists ((y E)) (p ?y)) c d))", "(exists ((z E)) (= ?z (ite (exists ((y E)) (q ?y ?z)) c d)))": "(= k0 (ite (exists ((y E)) (q ?y k0)) c d)) k0:E", "(iff ?u (exists ((y E)) (p ?y)))": "(and (or (not ?u) (p k0)) (or ?u (forall ((y E)) (not (p ?y))))) k0:E",
	} {
		x, l, e := Skolem(read(t, s), "k")
		got := text(t, x)
		for _, f := range l {
			got += " " + f.Name
			if len(f.Args) > 0 {
				got += "(" + strings.Join(f.Args, ",") + ")"
			}
			got += ":" + f.Sort
		}
		if got != want || e != api.OK {
			t.Errorf("Skolem(%s): %s, %d, want %s", s, got, e, want)
		}
	}
	universal := func(n int) string {
		s := ""
		for _, v := range manyVars(n) {
			s += "(" + v.Name + " E) "
		}
		return strings.TrimSpace(s)
	}
	for _, c := range []struct {
		s, prefix string
		want      api.Errno
	}{
		{"(p c)", "", api.ErrName}, {"(p c)", "-", api.ErrName}, {"(p c)", "a b", api.ErrName}, {"(p c)", strings.Repeat("x", 199), api.OK}, {"(p c)", strings.Repeat("x", 200), api.ErrName}, {"(p c)", "?", api.ErrName}, {"(p c)", "=", api.ErrName}, {"(p c)", "true", api.OK}, {"(p c)", "len$Seq<E>", api.OK},
		{"(exists ((y E)) (q ?y k0))", "k", api.ErrTwice}, {"(exists ((y E)) (q ?y k1))", "k", api.OK}, {"(p k0)", "k", api.OK}, {"(exists ((y E)) (= k0 (ite (exists ((y E)) true) ?y c)))", "", api.ErrTwice}, {"(exists ((y E)) (p k0))", "", api.ErrName},
		{"(exists ((y E)) (forall ((y E)) (p ?y)))", "k", api.ErrTwice}, {"(forall ((y E)) (p (ite (exists ((z E) (y E)) true) c d)))", "k", api.ErrTwice}, {"(forall ((y E)) (! (ite (exists ((y E)) true) c d)) (p ?y))", "k", api.ErrTwice}, {"(and (exists ((y E)) (p ?y)) (forall ((y E)) (p ?y)))", "k", api.OK},
		{"(forall (" + universal(12) + ") (exists ((y E)) (and" + strings.Repeat(" (p ?y)", 100) + ")))", "k", api.OK}, {"(forall (" + universal(12) + ") (exists ((y E)) (and" + strings.Repeat(" (p ?y)", 142) + ")))", "k", api.OK}, {"(forall (" + universal(12) + ") (exists ((y E)) (and" + strings.Repeat(" (p ?y)", 143) + ")))", "k", api.ErrLarge}, {"(forall (" + universal(12) + ") (exists ((y E)) (and" + strings.Repeat(" (p ?y)", 142) + strings.Repeat(" true", 10) + ")))", "k", api.OK}, {"(forall (" + universal(12) + ") (exists ((y E)) (and" + strings.Repeat(" (p ?y)", 142) + strings.Repeat(" true", 11) + ")))", "k", api.ErrLarge},
		{"(forall ((x E)) (exists ((y E)) (p " + strings.Repeat("(f ", 56) + "?y" + strings.Repeat(")", 56) + ")))", "k", api.OK}, {"(exists ((y E)) (p " + strings.Repeat("(f ", 57) + "?y" + strings.Repeat(")", 57) + "))", "k", api.OK}, {"(exists ((y E)) (forall ((x E)) (exists ((z E)) (q ?z " + strings.Repeat("(f ", 54) + "?y" + strings.Repeat(")", 54) + "))))", "k", api.OK}, {strings.Repeat("(and ", 57) + "(forall ((x E)) (exists ((y Bool)) ?y))" + strings.Repeat(")", 57), "k", api.OK}, {"(forall ((a E)) (and (exists ((y E)) (p ?y)) (p " + strings.Repeat("(f ", 56) + "?a" + strings.Repeat(")", 56) + ")))", "k", api.OK},
	} {
		larger := sig()
		larger.Funs = append(larger.Funs, api.Fun{Name: "k0", Sort: "E"}, api.Fun{Name: "k1", Sort: "E"})
		f, at, e := Parse(larger, given, c.s)
		if e != api.OK {
			t.Fatalf("%s: %d at %d", c.s, e, at)
		}
		if x, l, e := Skolem(f, c.prefix); e != c.want || (x == nil) != (e != api.OK) || e != api.OK && l != nil {
			t.Errorf("Skolem(%.80s, %q): %d, want %d", c.s, c.prefix, e, c.want)
		}
	}
}

func TestDeepSkolem(t *testing.T) { // P9.4
	// An existential quantifier is a level less, and the application of its function one more.
	deepest := read(t, "(forall ((x E)) (exists ((y E)) (p "+strings.Repeat("(f ", 56)+"?y"+strings.Repeat(")", 56)+")))")
	if x, l, e := Skolem(deepest, "k"); e != api.OK || len(l) != 1 || depthOf(deepest) != 60 || depthOf(x) != 60 {
		t.Errorf("%d levels of %d: %d", depthOf(x), depthOf(deepest), e)
	}
}

func TestSimplify(t *testing.T) { // P9.4
	for s, want := range map[string]string{
		"(not true)": "false", "(not false)": "true", "(not (not (p c)))": "(p c)", "(not (not (not (p c))))": "(not (p c))", "(not (p c))": "(not (p c))", "(not (and))": "false",
		"(and)": "true", "(or)": "false", "(and true true)": "true", "(and (p c) true)": "(p c)", "(and (p c) false ?u)": "false", "(and ?u true ?v)": "(and ?u ?v)", "(or ?u false ?v)": "(or ?u ?v)", "(or ?u true)": "true", "(or false (p c))": "(p c)", "(and ?u ?u)": "(and ?u ?u)", "(and (and ?u) (or false ?v))": "(and ?u ?v)", "(and true (or (p c) false) (= c c))": "(p c)", "(and true false)": "false", "(or false true)": "true",
		"(=> true ?u)": "?u", "(=> false ?u)": "true", "(=> ?u true)": "true", "(=> ?u false)": "(not ?u)", "(=> (not ?u) false)": "?u", "(=> true false)": "false", "(=> ?u ?u)": "(=> ?u ?u)", "(=> false false)": "true",
		"(iff ?u true)": "?u", "(iff true ?u)": "?u", "(iff ?u false)": "(not ?u)", "(iff false (not ?u))": "?u", "(iff ?u ?u)": "true", "(iff ?u ?v)": "(iff ?u ?v)", "(iff true false)": "false", "(iff false false)": "true", "(iff false true)": "false",
		"(ite true ?x c)": "?x", "(ite false ?x c)": "c", "(ite ?u c c)": "c", "(ite ?u c ?x)": "(ite ?u c ?x)", "(ite ?u true false)": "(ite ?u true false)", "(ite (< 1 2) 3 ?i)": "3",
		"(= ?x ?x)": "true", "(= 1 1)": "true", "(= 1 2)": "false", "(= 1/2 1/3)": "false", "(= ?x c)": "(= ?x c)", "(= (+ 1 2) 3)": "true", "(= ?u true)": "(= ?u true)", "(= true false)": "(= true false)", "(= ?i 1)": "(= ?i 1)",
		"(+ 2 3)": "5", "(- 2 3)": "-1", "(* -2 3)": "-6", "(+ 1/2 1/3)": "5/6", "(- 1/2 1/2)": "0/1", "(* 2/3 3/2)": "1/1", "(+ ?i 0)": "(+ ?i 0)", "(* 0 ?i)": "(* 0 ?i)", "(+ (+ 1 2) (* 2 ?i))": "(+ 3 (* 2 ?i))", "(< (+ 2 3) 5)": "false", "(<= 5 5)": "true", "(< -2 1)": "true", "(< 1/3 1/2)": "true", "(<= 1/2 1/3)": "false", "(< ?i ?i)": "(< ?i ?i)",
		"(forall ((x E)) (or true (p ?x)))": "true", "(exists ((x E)) (and))": "true", "(exists ((x E)) (not (and)))": "false", "(forall ((x E)) (! (f (ite true ?x c))) (p ?x))": "(forall ((x E)) (! (f ?x)) (p ?x))", "(forall ((x E)) (! (f ?x)) false)": "false", "(forall ((x E)) (! (and true ?u)) (and (p ?x)))": "(forall ((x E)) (! ?u) (p ?x))",
		"(f (ite true c ?x))": "(f c)", "c": "c", "?w": "?w", "3": "3", "(cons c (ite ?u nil nil))": "(cons c nil)",
		"(+ " + strings.Repeat("9", 120) + " 1)": "(+ " + strings.Repeat("9", 120) + " 1)", "(< (* " + strings.Repeat("9", 120) + " 2) 1)": "(< (* " + strings.Repeat("9", 120) + " 2) 1)", "(- -" + strings.Repeat("9", 120) + " -" + strings.Repeat("9", 120) + ")": "0",
	} {
		got, e := Simplify(read(t, s))
		if e != api.OK || text(t, got) != want {
			t.Errorf("Simplify(%s): %s, %d, want %s", s, text(t, got), e, want)
		}
	}
	// The result is new memory.
	x := read(t, "(forall ((x E)) (p ?x))")
	got, _ := Simplify(x)
	got[2].Vars[0].Name, got[2].Kids[0] = "changed", 7
	if text(t, x) != "(forall ((x E)) (p ?x))" {
		t.Error("a term that is changed")
	}
}

// numeral returns the numeral of a number; those with a slash are of the sort Real.
func numeral(name string) api.Terms {
	sort := "Int"
	if strings.Contains(name, "/") {
		sort = "Real"
	}
	return api.Terms{{Op: api.LNum, Sort: sort, Name: name}}
}

func TestSimplifyNumeralsOfAllSorts(t *testing.T) { // P9.4
	// The form of a term does not say that the sorts of its nodes fit together.
	nines := strings.Repeat("9", 120)
	for _, c := range []struct {
		op         int
		a, b, want string
	}{
		{api.LAdd, "1/2", "1/2", "1/1"}, {api.LSub, "1/2", "1/3", "1/6"}, {api.LMul, "-2/3", "3/4", "-1/2"}, {api.LAdd, "2", "3", "5"}, {api.LSub, "2", "3", "-1"}, {api.LMul, "-2", "3", "-6"},
		{api.LAdd, "1", "1/1", "2/1"}, {api.LAdd, "1/2", "-1", "-1/2"}, {api.LSub, "1", "1/3", "2/3"}, {api.LMul, "0", "1/3", "0/1"}, {api.LMul, "2/3", "3", "2/1"},
		{api.LAdd, nines, "0/1", nines + "/1"}, {api.LSub, nines, nines + "/1", "0/1"}, {api.LAdd, nines, "1", ""}, {api.LAdd, nines, "1/2", ""}, {api.LMul, nines + "/1", "2", ""}, {api.LSub, "-" + nines + "/1", "1/1", ""},
	} {
		for _, sort := range []string{"Int", "Real"} {
			x := joined(api.Term{Op: c.op, Sort: sort}, numeral(c.a), numeral(c.b))
			want := x
			if c.want != "" {
				want = numeral(c.want)
			}
			if got, e := Simplify(x); !Same(got, want) || e != api.OK {
				t.Errorf("the operation %d of the sort %s on %s and %s: %v, %d", c.op, sort, c.a, c.b, got, e)
			}
		}
	}
	for _, c := range []struct {
		a, b string
		way  int
	}{{"1", "2", -1}, {"1/2", "1/3", 1}, {"1/2", "1", -1}, {"1", "1/1", 0}, {"-" + nines, "-1/2", -1}, {nines + "/1", nines, 0}, {"7", "7", 0}} {
		less, most := joined(api.Term{Op: api.LLt, Sort: "Bool"}, numeral(c.a), numeral(c.b)), joined(api.Term{Op: api.LLe, Sort: "Bool"}, numeral(c.a), numeral(c.b))
		isLess, e := Simplify(less)
		isMost, f := Simplify(most)
		if !Same(isLess, Bool(c.way < 0)) || !Same(isMost, Bool(c.way <= 0)) || e != api.OK || f != api.OK {
			t.Errorf("%s and %s: %v, %d, %v, %d", c.a, c.b, isLess, e, isMost, f)
		}
	}
	// Results are the numerals of further operations.
	half := numeral("1/2")
	sum := joined(api.Term{Op: api.LAdd, Sort: "Int"}, joined(api.Term{Op: api.LMul, Sort: "Int"}, half, half), half)
	for _, c := range []struct{ x, want api.Terms }{
		{sum, numeral("3/4")}, {joined(api.Term{Op: api.LEq, Sort: "Bool"}, sum, numeral("3/4")), Bool(true)}, {joined(api.Term{Op: api.LEq, Sort: "Bool"}, numeral("1"), numeral("1/1")), Bool(false)}, {joined(api.Term{Op: api.LLt, Sort: "Bool"}, sum, numeral("1")), Bool(true)},
	} {
		if got, e := Simplify(c.x); !Same(got, c.want) || e != api.OK {
			t.Errorf("Simplify(%v): %v, %d", c.x, got, e)
		}
	}
	// A sum with a child that is no numeral stays.
	open := joined(api.Term{Op: api.LAdd, Sort: "Int"}, half, Var("x", "E"))
	if got, e := Simplify(open); !Same(got, open) || e != api.OK {
		t.Errorf("Simplify: %v, %d", got, e)
	}
}
