package model

import (
	"slices"
	"strconv"
	"strings"
	"testing"

	"entail/api"
	"entail/term"
)

func TestApply(t *testing.T) { // P12.2
	sig := rich()
	m := set(t, sig, first(t, sig, 2), "f", "_!0", "_!1")
	m = set(t, sig, m, "g", "5 _!1", "7")
	huge := times("9", 120)
	for _, c := range []struct{ name, args, want string }{
		{"c", "", "_!0"}, {"f", "_!0", "_!1"}, {"f", "_!1", "_!0"}, {"g", "5 _!1", "7"}, {"g", "5 _!0", "0"}, {"r", "1/2", "0/1"},
		{"div$Int", "-7 2", "-4"}, {"mod$Int", "-7 2", "1"}, {"div$Int", "7 -2", "-3"}, {"mod$Int", "7 -2", "1"}, {"div$Int", "7 0", "0"}, {"mod$Int", "7 0", "0"}, {"mod$Int", "-7 0", "0"}, {"div$Int", "-" + huge + " 1", "-" + huge}, {"real$Int", "-7", "-7/1"}, {"real$Int", huge, huge + "/1"}, {"floor$Real", "-3/2", "-2"}, {"floor$Real", "7/1", "7"},
		{"nil", "", "nil"}, {"cons", "_!1 nil", "(cons _!1 nil)"}, {"head", "(cons _!1 nil)", "_!1"}, {"head", "nil", "_!0"}, {"tail", "(cons _!1 (cons _!0 nil))", "(cons _!0 nil)"}, {"tail", "nil", "nil"}, {"num", "(leaf 7)", "7"}, {"num", "(node (leaf 1) (leaf 2))", "0"}, {"left", "(leaf 7)", "(leaf 0)"}, {"right", "(node (leaf 1) (leaf 2))", "(leaf 2)"}, {"unwrap", "(bare <true>)", "(some [] 0/1)"},
		{"map", "(wrap none blue)", "<false>"}, {"is$nil", "nil", "true"}, {"is$nil", "(cons _!0 nil)", "false"}, {"is$cons", "nil", "false"}, {"is$green", "green", "true"},
		// Maps over a sort that is not small.
		{"select$Map<Int,E>", "<_!0 5:_!1> 5", "_!1"}, {"select$Map<Int,E>", "<_!0 5:_!1> 6", "_!0"}, {"store$Map<Int,E>", "<_!0> 5 _!1", "<_!0 5:_!1>"}, {"store$Map<Int,E>", "<_!0 5:_!1> 5 _!0", "<_!0>"}, {"store$Map<Int,E>", "<_!0 7:_!1> -5 _!1", "<_!0 7:_!1 -5:_!1>"}, {"store$Map<Int,Int>", "<0 5:1> 5 2", "<0 5:2>"},
		{"const$Map<Int,E>", "_!1", "<_!1>"}, {"diff$Map<Int,E>", "<_!0> <_!0>", "0"}, {"diff$Map<Int,Int>", "<3> <4>", "0"}, {"diff$Map<Int,Int>", "<3 0:1> <4 0:1>", "1"}, {"diff$Map<Int,Int>", "<3 0:1 1:1 -1:1> <4 0:1 1:1 -1:1>", "2"}, {"diff$Map<Int,Int>", "<3 0:1 9:1> <4 0:1 9:2>", "9"}, {"diff$Map<Int,Int>", "<3 -5:1 10:2> <3 10:1>", "-5"},
		{"diff$Map<Int,Int>", "<3 5:4> <4>", "0"}, {"diff$Map<Int,Int>", "<3 0:4> <4>", "1"}, {"diff$Map<Int,Int>", "<3 0:4 9:7> <4>", "9"}, {"diff$Map<L,Bool>", "<false> <true nil:false>", "(cons _!0 nil)"},
		// Maps over a small one: the default is the value of its first element.
		{"select$Map<C,Int>", "<1 blue:2> red", "1"}, {"select$Map<C,Int>", "<1 blue:2> blue", "2"}, {"store$Map<C,Int>", "<1 blue:2> red 5", "<5 blue:2 green:1>"}, {"store$Map<C,Int>", "<1 blue:2> red 2", "<2 green:1>"}, {"store$Map<C,Int>", "<1 blue:2> blue 1", "<1>"}, {"store$Map<C,Int>", "<1> green 3", "<1 green:3>"}, {"const$Map<C,Int>", "7", "<7>"},
		{"diff$Map<C,Int>", "<1 blue:2> <1 blue:2>", "red"}, {"diff$Map<C,Int>", "<1 blue:2> <1>", "blue"}, {"diff$Map<C,Int>", "<1 blue:2 green:3> <1>", "green"}, {"diff$Map<C,Int>", "<1> <2 blue:1 green:1>", "red"}, {"diff$Map<E,Set<E>>", "<{}> <{_!1} _!1:{}>", "_!0"},
		{"len$Seq<Int>", "[4 5 4]", "3"}, {"len$Seq<Int>", "[]", "0"}, {"at$Seq<Int>", "[4 5] 0", "4"}, {"at$Seq<Int>", "[4 5] 1", "5"}, {"at$Seq<Int>", "[4 5] 2", "0"}, {"at$Seq<Int>", "[4 5] -1", "0"}, {"at$Seq<Int>", "[4 5] " + huge, "0"}, {"at$Seq<Int>", "[4 5] -" + huge, "0"}, {"at$Seq<T>", "[] 0", "(leaf 0)"},
		{"empty$Seq<Int>", "", "[]"}, {"one$Seq<Int>", "7", "[7]"}, {"cat$Seq<Int>", "[1 2] [2 3]", "[1 2 2 3]"}, {"cat$Seq<Int>", "[] []", "[]"}, {"put$Seq<Int>", "[4 5] 1 9", "[4 9]"}, {"put$Seq<Int>", "[4 5] 2 9", "[4 5]"}, {"put$Seq<Int>", "[4 5] -1 9", "[4 5]"}, {"put$Seq<Int>", "[4 5] " + huge + " 9", "[4 5]"},
		{"cut$Seq<Int>", "[4 5 6] 1 9", "[5 6]"}, {"cut$Seq<Int>", "[4 5 6] -3 1", "[4]"}, {"cut$Seq<Int>", "[4 5 6] 0 3", "[4 5 6]"}, {"cut$Seq<Int>", "[4 5 6] 2 1", "[]"}, {"cut$Seq<Int>", "[4 5 6] 1 1", "[]"}, {"cut$Seq<Int>", "[4 5 6] 5 9", "[]"}, {"cut$Seq<Int>", "[4 5 6] 0 -1", "[]"}, {"cut$Seq<Int>", "[4 5 6] -" + huge + " " + huge, "[4 5 6]"}, {"cut$Seq<Int>", "[4 5 6] " + huge + " " + huge, "[]"},
		{"cut$Seq<Int>", "[4 5 6] 0 -" + huge, "[]"}, {"pre$Seq<Int>", "[4] [4 5]", "true"}, {"pre$Seq<Int>", "[4 5] [4 5]", "true"}, {"pre$Seq<Int>", "[] []", "true"}, {"pre$Seq<Int>", "[5] [4 5]", "false"}, {"pre$Seq<Int>", "[4 5] [4]", "false"}, {"diff$Seq<Int>", "[4 5] [4 5]", "0"}, {"diff$Seq<Int>", "[4 5] [4 6]", "1"}, {"diff$Seq<Int>", "[4] [4 5]", "1"}, {"diff$Seq<Int>", "[4 5 6] [4]", "1"}, {"diff$Seq<Int>", "[5] [4 5]", "0"},
		{"has$Set<Int>", "{1 2} 2", "true"}, {"has$Set<Int>", "{1 2} 3", "false"}, {"empty$Set<E>", "", "{}"}, {"one$Set<E>", "_!1", "{_!1}"}, {"join$Set<Int>", "{1 3} {2 3}", "{1 2 3}"}, {"join$Set<Int>", "{5 -1} {10}", "{5 -1 10}"}, {"meet$Set<Int>", "{1 3} {2 3}", "{3}"}, {"less$Set<Int>", "{1 3} {2 3}", "{1}"}, {"sub$Set<Int>", "{1} {1 2}", "true"}, {"sub$Set<Int>", "{1 2} {1}", "false"},
		{"sub$Set<Int>", "{} {}", "true"}, {"size$Set<Int>", "{1 2}", "2"}, {"diff$Set<Int>", "{1 2} {1 2}", "0"}, {"diff$Set<Int>", "{1 2} {1 3}", "2"}, {"diff$Set<Int>", "{5 -1} {5}", "-1"}, {"diff$Set<Int>", "{-1} {10}", "-1"}, {"diff$Set<L>", "{} {nil}", "nil"}, {"diff$Set<C>", "{} {}", "red"},
	} {
		v, e := Apply(sig, m, c.name, vals(c.args))
		if say(v) != c.want || e != api.OK {
			t.Errorf("Apply of %s to %s: %s, %d, want %s", c.name, c.args, say(v), e, c.want)
		}
	}
}

// numbered returns the text of numbers from 0 on, and what stands behind each one.
func numbered(n int, behind string) string {
	var l []string
	for i := range n {
		l = append(l, strconv.Itoa(i)+behind)
	}
	return strings.Join(l, " ")
}

func TestApplyErrors(t *testing.T) { // P12.2
	sig := rich()
	m := first(t, sig, 2)
	two := times(numbered(100, "")+" ", 2)
	big := api.Signature{Sorts: []string{"E"}, Datas: tower(3, 20).Datas, Funs: []api.Fun{fun("q", "D1")}}
	bigModel := first(t, big, 1)
	deep := example()
	wide := api.Signature{Datas: []api.Datatype{{Sort: "D"}}}
	for i := range 20 {
		wide.Datas[0].Cons = append(wide.Datas[0].Cons, api.Cons{Name: "k" + strconv.Itoa(i), Fields: fields("x"+strconv.Itoa(i), "Bool")})
	}
	wideModel := first(t, wide, 1)
	for i, c := range []struct {
		sig        api.Signature
		m          Model
		name, args string
		want       api.Errno
	}{
		{sig, m, "x", "1", api.ErrUnknown}, {sig, m, "", "", api.ErrUnknown}, {sig, m, "len$Seq<G>", "[]", api.ErrUnknown}, {sig, m, "len$Set<E>", "{}", api.ErrUnknown}, {sig, m, "f", "", api.ErrArgs}, {sig, m, "f", "1 2", api.ErrArgs}, {sig, m, "c", "_!0", api.ErrArgs}, {sig, m, "cons", "_!0", api.ErrArgs}, {sig, m, "len$Seq<E>", "", api.ErrArgs}, {sig, m, "is$nil", "", api.ErrArgs},
		{sig, m, "f", "_!2", api.ErrType}, {sig, m, "f", "0", api.ErrType}, {sig, m, "div$Int", "1 1/1", api.ErrType}, {sig, m, "cons", "nil nil", api.ErrType}, {sig, m, "head", "red", api.ErrType}, {sig, m, "at$Seq<Int>", "[true] 0", api.ErrType}, {sig, m, "store$Map<C,Int>", "<1 red:2> red 1", api.ErrType}, {sig, m, "has$Set<Int>", "{2 1} 1", api.ErrType},
		// Too many items, and keys that a new default makes.
		{sig, m, "cat$Seq<Int>", "[" + numbered(100, "") + "] [" + numbered(100, "") + "]", api.OK}, {sig, m, "cat$Seq<Int>", "[" + two + "] [1]", api.ErrLarge}, {sig, m, "cat$Seq<Int>", "[" + two + "] []", api.OK}, {sig, m, "join$Set<Int>", "{" + numbered(200, "") + "} {199}", api.OK}, {sig, m, "join$Set<Int>", "{" + numbered(200, "") + "} {200}", api.ErrLarge},
		{sig, m, "store$Map<Int,Int>", "<7 " + numbered(32, ":1") + "> 31 5", api.OK}, {sig, m, "store$Map<Int,Int>", "<7 " + numbered(32, ":1") + "> 32 5", api.ErrLarge}, {sig, m, "store$Map<Int,Int>", "<7 " + numbered(32, ":1") + "> 32 7", api.OK}, {sig, m, "store$Map<Int,Int>", "<7 " + numbered(32, ":1") + "> 31 7", api.OK},
		{wide, wideModel, "store$Map<D,Bool>", "<false> (k0 true) true", api.OK}, {wide, wideModel, "store$Map<D,Bool>", "<false> (k0 false) true", api.ErrLarge}, {wide, wideModel, "store$Map<D,Bool>", "<false (k0 true):true (k1 false):true (k1 true):true (k2 false):true (k2 true):true (k3 false):true (k3 true):true> (k0 false) true", api.OK},
		{wide, wideModel, "store$Map<D,Bool>", "<false (k0 true):true (k1 false):true (k1 true):true (k2 false):true (k2 true):true (k3 false):true> (k0 false) true", api.ErrLarge},
		// Values that are too deep or too large, also zeros and elements.
		{deep, first(t, deep, 1), "cons", "_!0 " + times("(cons _!0 ", 78) + "nil" + times(")", 78), api.OK}, {deep, first(t, deep, 1), "cons", "_!0 " + times("(cons _!0 ", 79) + "nil" + times(")", 79), api.ErrLarge}, {sig, m, "one$Seq<Seq<Int>>", "[" + two + "]", api.OK},
		{sig, m, "cat$Seq<Seq<Int>>", "[" + times("["+two+"] ", 19) + "] [[" + numbered(179, "") + "]]", api.OK}, {sig, m, "cat$Seq<Seq<Int>>", "[" + times("["+two+"] ", 19) + "] [[" + numbered(180, "") + "]]", api.ErrLarge}, {big, bigModel, "at$Seq<D1>", "[] 0", api.OK}, {big, bigModel, "at$Seq<D2>", "[] 0", api.ErrLarge}, {big, bigModel, "diff$Set<D2>", "{} {}", api.ErrLarge},
		{big, bigModel, "diff$Map<D2,Bool>", "<true> <false>", api.ErrLarge}, {big, bigModel, "diff$Map<D2,Bool>", "<true> <true>", api.ErrLarge}, {wide, wideModel, "diff$Map<Map<D,Bool>,Int>", "<1 <false>:2> <2>", api.ErrLarge},
	} {
		v, e := Apply(c.sig, c.m, c.name, vals(c.args))
		if e != c.want || e != api.OK && Compare(v, api.Value{}) != 0 {
			t.Errorf("%d: Apply of %s: %.60s, %d, want %d", i, c.name, say(v), e, c.want)
		}
	}
}

func TestEval(t *testing.T) { // P12.2
	sig := rich()
	m := exampleIn(t, sig)
	m.Domains = []Domain{{"Int", vals("1 5 2")}}
	for s, want := range map[string]string{
		"(f c)": "_!1", "(p (f c))": "true", "(f (f c))": "_!0", "(forall ((x E)) (= (f (f ?x)) ?x))": "true", "(exists ((x E)) (and (p ?x) (= ?x c)))": "false", "true": "true", "false": "false", "-7": "-7", "3/2": "3/2", "(+ 2 (* 3 -4))": "-10", "(- 2 5)": "-3", "(+ 1/2 1/3)": "5/6", "(- 1/2 1/1)": "-1/2", "(* 2/3 3/2)": "1/1",
		"(< 1 2)": "true", "(< 2 2)": "false", "(<= 2 2)": "true", "(<= 3 2)": "false", "(< 1/3 1/2)": "true", "(<= -1/1 -1/1)": "true", "(< 10 9)": "false", "(= 1 1)": "true", "(= 1/2 1/3)": "false", "(= nil (cons c nil))": "false", "(= (cons c nil) (cons c nil))": "true", "(not true)": "false", "(and)": "true", "(or)": "false", "(and true true)": "true", "(and true false true)": "false",
		"(or false true)": "true", "(or false false)": "false", "(=> true false)": "false", "(=> false false)": "true", "(=> true true)": "true", "(iff false false)": "true", "(iff true false)": "false", "(ite (p c) 1 2)": "2", "(ite (not (p c)) nil (cons c nil))": "nil",
		// Quantifiers: over small sorts, over domains, over zeros; names belong to the innermost quantifier.
		"(forall ((x Int)) (<= ?x 5))": "true", "(forall ((x Int)) (< ?x 5))": "false", "(exists ((x Int)) (= ?x 3))": "false", "(exists ((x Int)) (= ?x 5))": "true", "(forall ((x Real)) (= ?x 0/1))": "true", "(exists ((l L)) (is$cons ?l))": "false", "(forall ((x E)) (exists ((x E)) (p ?x)))": "true", "(forall ((x E)) (=> (exists ((x E)) (p ?x)) (p ?x)))": "false",
		"(exists ((x E) (y E)) (and (p ?x) (not (p ?y))))": "true", "(forall ((x E) (y E)) (=> (p ?x) (p ?y)))": "false", "(forall ((x C) (y C) (z C)) (or (= ?x ?y) (= ?y ?z) (= ?x ?z) (not (= ?x red)) (= ?y green) (= ?y blue)))": "true", "(forall ((m Map<Bool,E>)) (or (= ?m (const$Map<Bool,E> c)) (exists ((b Bool)) (p (select$Map<Bool,E> ?m ?b)))))": "true",
		"(ite (exists ((x E)) (p ?x)) (forall ((x E)) (p ?x)) true)": "false", "(forall ((x E)) (! (f ?x)) (p (f c)))": "true", "(f ?e)": "_!0", "(g (+ ?n 1) ?e)": "7", "(forall ((n E)) (=> (= ?n ?e) (< ?k 10)))": "true",
	} {
		x := read(t, sig, s, fields("e", "E", "n", "Int", "k", "Int")...)
		l := []Assigned{{"k", val("9")}, {"e", val("_!1")}, {"unused", api.Value{Kind: 99}}, {"n", val("4")}}
		if v, e := Eval(sig, m, l, x); say(v) != want || e != api.OK {
			t.Errorf("Eval of %s: %s, %d", s, say(v), e)
		}
		if len(x) > 0 && !strings.ContainsAny(s, "?") {
			is, e := Holds(sig, m, x)
			isFormula := want == "true" || want == "false"
			if is != (want == "true") || (e == api.OK) != isFormula || !isFormula && e != api.ErrSort {
				t.Errorf("Holds of %s: %v, %d", s, is, e)
			}
		}
	}
	if is, e := Holds(sig, m, read(t, sig, "(forall ((x E)) (= (f (f ?x)) ?x))")); !is || e != api.OK {
		t.Errorf("Holds: %v, %d", is, e)
	}
}

// exampleIn is the model M for a signature with more functions, and g is 7 at 5 and 1.
func exampleIn(t *testing.T, sig api.Signature) Model {
	m := set(t, sig, first(t, sig, 2), "f", "_!0", "_!1")
	m = set(t, sig, m, "p", "_!1", "true")
	return set(t, sig, m, "g", "5 _!1", "7")
}

func TestEvalErrors(t *testing.T) { // P12.2
	sig := rich()
	m := exampleIn(t, sig)
	x, y := term.Var("x", "E"), term.Var("y", "Int")
	pair, _ := term.Make(api.LEq, term.Var("x", "E"), term.Var("x", "E"))
	odd := append(api.Terms{{Op: api.LVar, Sort: "E", Name: "x"}, {Op: api.LVar, Sort: "Int", Name: "x"}}, api.Term{Op: api.LEq, Sort: "Bool", Kids: []int{0, 1}})
	unknown := api.Terms{{Op: api.LApp, Sort: "E", Name: "gone"}}
	badSort := term.Var("x", "Nowhere")
	one, bad := Assigned{"x", val("_!1")}, Assigned{"", val("1")}
	var many []Assigned
	for i := range 101 {
		many = append(many, Assigned{"v" + strconv.Itoa(i), val("1")})
	}
	for i, c := range []struct {
		l    []Assigned
		x    api.Terms
		want api.Errno
	}{
		{many, nil, api.ErrMany}, {many[:100], x, api.ErrUnknown}, {[]Assigned{one, bad}, nil, api.ErrName}, {[]Assigned{{"a b", val("1")}}, nil, api.ErrName}, {[]Assigned{{times("a", 201), val("1")}}, nil, api.ErrName}, {[]Assigned{one, one, bad}, nil, api.ErrTwice}, {[]Assigned{one}, nil, api.ErrEmpty}, {[]Assigned{one}, api.Terms{{Op: 99}}, api.ErrKind},
		{nil, x, api.ErrUnknown}, {[]Assigned{{"X", val("_!0")}}, x, api.ErrUnknown}, {[]Assigned{one}, y, api.ErrUnknown}, {[]Assigned{one}, unknown, api.ErrUnknown}, {[]Assigned{one}, odd, api.ErrSort}, {[]Assigned{one}, badSort, api.ErrSort}, {[]Assigned{{"x", val("_!2")}}, pair, api.ErrType}, {[]Assigned{{"x", val("1")}}, x, api.ErrType}, {[]Assigned{one}, pair, api.OK},
		{[]Assigned{{"x", api.Value{Kind: 77}}, {"y", val("3")}}, y, api.OK}, {[]Assigned{{"x", val("_!2")}}, append(odd[:2:2], api.Term{Op: api.LEq, Sort: "Bool", Kids: []int{0, 1}}), api.ErrSort},
	} {
		v, e := Eval(sig, m, c.l, c.x)
		if e != c.want || e != api.OK && Compare(v, api.Value{}) != 0 {
			t.Errorf("%d: Eval: %s, %d, want %d", i, say(v), e, c.want)
		}
	}
	for i, c := range []struct {
		x    api.Terms
		want api.Errno
	}{{nil, api.ErrEmpty}, {x, api.ErrUnknown}, {pair, api.ErrUnknown}, {unknown, api.ErrUnknown}, {read(t, sig, "(+ 1 2)"), api.ErrSort}, {read(t, sig, "c"), api.ErrSort}, {badSort, api.ErrUnknown}} {
		if is, e := Holds(sig, m, c.x); is || e != c.want {
			t.Errorf("%d: Holds: %v, %d, want %d", i, is, e, c.want)
		}
	}
}

func TestEvalLarge(t *testing.T) { // P12.2
	sig := rich()
	m := exampleIn(t, sig)
	huge := times("9", 120)
	for s, want := range map[string]api.Errno{
		"(+ " + huge + " 1)": api.ErrLarge, "(* " + huge + " 10)": api.ErrLarge, "(- -" + huge + " 1)": api.ErrLarge, "(- " + huge + " 1)": api.OK, "(+ 1/" + huge + " 1/2)": api.ErrLarge, "(* 1/" + huge + " 1/2)": api.ErrLarge,
		// All children are evaluated, also if the result is known already.
		"(and false (= 0 (+ " + huge + " 1)))": api.ErrLarge, "(or true (= 0 (+ " + huge + " 1)))": api.ErrLarge, "(=> false (= 0 (+ " + huge + " 1)))": api.ErrLarge, "(ite true 1 (+ " + huge + " 1))": api.ErrLarge, "(ite false (+ " + huge + " 1) 1)": api.ErrLarge,
		// A quantifier ends when its result is known, and triggers are not evaluated.
		"(exists ((x E)) (or (not (p ?x)) (= 0 (ite (p ?x) 0 1))))": api.OK, "(forall ((b Bool)) (and ?b (= 0 (+ 1 (ite ?b " + huge + " 1)))))": api.OK, "(forall ((b Bool)) (or (not ?b) (= 0 (+ 1 (ite ?b " + huge + " 1)))))": api.ErrLarge, "(forall ((x E)) (! (+ " + huge + " 1)) true)": api.OK,
	} {
		if v, e := Eval(sig, m, nil, read(t, sig, s)); e != want || e != api.OK && Compare(v, api.Value{}) != 0 {
			t.Errorf("Eval of %.60s: %s, %d, want %d", s, say(v), e, want)
		}
	}
	// A zero that is too large may be the value of a variable, and be compared, but it is no argument.
	big := tower(3, 20)
	bigModel := first(t, big, 1)
	for s, want := range map[string]api.Errno{"(forall ((x D2)) (= ?x ?x))": api.OK, "(exists ((x D2)) true)": api.OK, "(forall ((x D2)) (is$c2 ?x))": api.ErrType, "(forall ((x D1)) (is$c1 ?x))": api.OK, "(forall ((x Seq<D2>)) (= ?x (one$Seq<D2> (at$Seq<D2> ?x 0))))": api.ErrLarge} {
		if _, e := Eval(big, bigModel, nil, read(t, big, s)); e != want {
			t.Errorf("Eval of %s: %d, want %d", s, e, want)
		}
	}
}

func TestSteps(t *testing.T) { // P12.2
	sig := api.Signature{}
	m := first(t, sig, 1)
	// Each combination of values of n variables of Bool is a step for each node of the body, the quantifier is one itself.
	count := func(vars int, body string) api.Terms {
		var l []string
		for i := range vars {
			l = append(l, "(v"+strconv.Itoa(i)+" Bool)")
		}
		return read(t, sig, "(forall ("+strings.Join(l, " ")+") "+body+")")
	}
	// 1 + 4096 * 48 steps, 1 + 2048 steps, those of the other nodes, and 1 of the conjunction: 200000 are permitted.
	quantifiers := []api.Terms{count(12, "(and"+times(" true", 47)+")"), count(11, "true")}
	for others, want := range map[int]api.Errno{1340: api.OK, 1341: api.OK, 1342: api.ErrLimit, 1343: api.ErrLimit} {
		parts := append(quantifiers[:2:2], slices.Repeat([]api.Terms{term.Bool(true)}, others)...)
		x, _ := term.Make(api.LAnd, parts...)
		if is, e := Holds(sig, m, x); is != (want == api.OK) || e != want {
			t.Errorf("Holds with %d steps: %v, %d, want %d", 196609+2049+others+1, is, e, want)
		}
	}
	if is, e := Holds(sig, m, count(12, "(and"+times(" true", 200)+")")); is || e != api.ErrLimit {
		t.Errorf("Holds with many steps: %v, %d", is, e)
	}
}
