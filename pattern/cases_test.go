package pattern

import (
	"slices"
	"strconv"
	"strings"
	"testing"

	"entail/api"
)

// numbers are the patterns of some natural numbers.
func numbers(from, to int) string {
	var l []string
	for i := from; i <= to; i++ {
		l = append(l, strconv.Itoa(i))
	}
	return strings.Join(l, ";")
}

func TestMissing(t *testing.T) { // P10.2
	p := program(t, declarations)
	for _, c := range []struct{ typ, patterns, want string }{
		{"D", "", "_"}, {"int", "", "_"}, {"real", "", "_"}, {"real", "x", ""}, {"D", "_", ""}, {"D", "x", ""}, {"seq<int>", "s;_", ""}, {"Cell", "", "_"}, {"D", "Nil", "Cons(_, _)"}, {"D", "Cons(_, _)", "Nil"}, {"D", "Nil;Cons(0, _)", "Cons(1, _)"}, {"D", "Nil;Cons(_, _)", ""}, {"D", "Cons(x, Nil)", "Nil"},
		{"D", "Nil;Cons(x, Nil)", "Cons(_, Cons(_, _))"}, {"D", "Nil;Cons(0, Nil);Cons(1, _)", "Cons(2, _)"}, {"D", "Nil;Cons(0, Nil);Cons(_, Cons(_, _))", "Cons(1, Nil)"}, {"D", "Nil;Cons(0, Nil);Cons(x, Cons(_, _));Cons(y, Nil)", ""}, {"D", "Nil;Cons(0, Nil);Cons(x, _)", ""},
		// The least natural number that no row has comes first, then the numbers of the rows.
		{"D", "Nil;Cons(0, Nil);Cons(2, _);Cons(_, Cons(_, _))", "Cons(1, Nil)"}, {"D", "Nil;Cons(3, Nil);Cons(-1, Nil);Cons(_, Cons(0, _))", "Cons(0, Nil)"}, {"D", "Nil;Cons(2, _);Cons(0, _)", "Cons(1, _)"},
		{"int", "0", "1"}, {"int", "0;1", "2"}, {"int", "1;0;3", "2"}, {"int", "-0", "1"}, {"int", "-1;-2", "0"}, {"int", "5", "0"}, {"int", "0;_", ""}, {"int", numbers(0, 31), "32"}, {"Nat", "0", "1"},
		{"bool", "true", "false"}, {"bool", "false", "true"}, {"bool", "true;false", ""}, {"bool", "true;_", ""}, {"bool", "", "_"}, {"bv2", "0;1;2", "3"}, {"bv2", "0;1;2;3", ""}, {"bv2", "3;0", "1"}, {"bv1", "1", "0"}, {"bv4", numbers(0, 15), ""}, {"bv4", numbers(1, 15), "0"},
		{"bv5", "0", "1"}, {"bv5", numbers(0, 31), ""}, {"bv5", numbers(1, 31), "0"}, {"bv5", numbers(0, 30), "31"}, {"bv64", "0", "1"}, {"bv5", "31;" + numbers(0, 29), "30"},
		{"Mix", "Mix1(_, _, _);Mix2(_, _, _, _);Mix3(_, 0, 0);Mix3(true, 0, _);Mix3(_, 1, _)", "Mix3(false, 2, _)"}, {"Mix", "Mix1(_, _, _);Mix2(_, _, _, _)", "Mix3(_, _, _)"}, {"Mix", "Mix2(_, _, _, _);Mix3(_, _, _);Mix1(0, Full(1), Red)", "Mix1(1, _, _)"},
		{"Mix", "Mix2(_, _, _, _);Mix3(_, _, _);Mix1(0, _, _);Mix1(_, Full(1), Red);Mix1(_, Full(_), Green)", "Mix1(1, Full(0), Red)"}, {"Color", "Red;Blue", "Green"}, {"Color", "Green", "Red"}, {"Sub", "Full(true);Empty", "Full(false)"}, {"Box<Box<bool>>", "Empty;Full(Empty);Full(Full(false))", "Full(Full(true))"},
		// Types without values have them here.
		{"Odd", "Bad(_);Ill(_);Any(_)", "Gone(_)"}, {"Odd", "Bad(_);Ill(_);Gone(Gone(_));Any(_)", "Gone(Bad(_))"}, {"M::Q", "M::O", "M::P(_)"}, {"M::Q", "M::P(M::P(_));M::O", "M::P(M::O)"}, {"Same", "S(0)", "S(1)"}, {"Same", "S(_)", "T"},
		{"Pair", "P(true, true);P(false, false)", "P(false, true)"}, {"Pair", "P(_, true);P(true, _)", "P(false, false)"}, {"Flag", "F(Red, _, _);F(_, Empty, 0);F(Blue, _, _)", "F(Green, Full(_), _)"}, {"Flag", "F(Red, _, _);F(_, Empty, 0);F(Blue, _, _);F(Green, Full(_), _)", "F(Green, Empty, 1)"},
	} {
		m, is, e := Missing(p, c.typ, pats(t, c.patterns))
		if text(m) != c.want || is != (c.want != "") || e != api.OK {
			t.Errorf("Missing of %s for %s: %s, %v, %d, want %s", c.patterns, c.typ, text(m), is, e, c.want)
		}
		if slices.ContainsFunc(m, func(n api.Node) bool { return n.At != 0 }) {
			t.Errorf("Missing of %s has offsets", c.patterns)
		}
	}
}

func TestRedundant(t *testing.T) { // P10.2
	p := program(t, declarations)
	for _, c := range []struct {
		typ, patterns string
		want          []int
	}{
		{"D", "", nil}, {"D", "Nil;Cons(0, _);Nil;Cons(0, Nil)", []int{2, 3}}, {"D", "_;_;Nil", []int{1, 2}}, {"D", "Nil;Cons(_, _);x", []int{2}}, {"D", "Cons(_, Nil);Cons(0, _);Cons(_, Cons(_, _));Cons(0, Nil);Nil;_", []int{3, 5}}, {"bool", "true;false;_;true", []int{2, 3}}, {"bool", "true;_;false", []int{2}},
		{"int", "0;1;-0;_;2", []int{2, 4}}, {"bv2", "0;1;2;3;_;0", []int{4, 5}}, {"bv5", numbers(0, 30) + ";_", nil}, {"bv4", numbers(0, 15) + ";_", []int{16}}, {"real", "x;_", []int{1}}, {"Pair", "P(true, _);P(_, true);P(false, true);P(true, false);P(_, _);P(false, false)", []int{2, 3, 5}},
		// A pattern that is redundant makes no other one redundant: one that is not useful covers nothing new.
		{"Odd", "Bad(_);Ill(_);Any(_);Gone(Gone(_));Gone(_);_", []int{5}}, {"Same", "S(_);T;_", []int{2}},
	} {
		l, e := Redundant(p, c.typ, pats(t, c.patterns))
		if !slices.Equal(l, c.want) || e != api.OK {
			t.Errorf("Redundant of %s for %s: %v, %d, want %v", c.patterns, c.typ, l, e, c.want)
		}
	}
}

func TestUseful(t *testing.T) { // P10.1
	p := program(t, declarations)
	for _, c := range []struct {
		typ, patterns, pattern string
		want                   bool
	}{
		{"D", "", "_", true}, {"D", "", "Nil", true}, {"D", "_", "Nil", false}, {"D", "Nil;Cons(0, _)", "Cons(x, y)", true}, {"D", "Nil;Cons(_, _)", "_", false}, {"D", "Cons(_, Nil);Cons(_, Cons(_, _))", "Cons(5, _)", false}, {"D", "Cons(0, Nil)", "Cons(0, _)", true}, {"D", "Cons(0, _)", "Cons(-0, Nil)", false},
		{"int", "0;1", "_", true}, {"int", "0;1", "1", false}, {"int", "1", "-1", true}, {"bool", "true;false", "_", false}, {"bool", "true", "_", true}, {"bv2", "0;1;2;3", "_", false}, {"bv5", numbers(0, 31), "_", false}, {"bv5", numbers(0, 30), "_", true}, {"bv6", numbers(0, 31), "_", true}, {"bv5", "7", "7", false},
		{"Odd", "Bad(_);Ill(_);Any(_)", "_", true}, {"Odd", "Bad(_);Ill(_);Any(_);Gone(_)", "_", false}, {"real", "_", "x", false}, {"Pair", "P(true, _);P(_, true)", "P(_, false)", true}, {"Pair", "P(true, _);P(_, true)", "P(true, x)", false},
	} {
		is, e := Useful(p, c.typ, pats(t, c.patterns), pat(t, c.pattern))
		if is != c.want || e != api.OK {
			t.Errorf("Useful of %s behind %s for %s: %v, %d", c.pattern, c.patterns, c.typ, is, e)
		}
	}
}

// asks are the four functions with a list of patterns, as functions that return an error and whether there is something else.
func asks() map[string]func(p api.Tree, typ string, l []api.Tree) (api.Errno, bool) {
	return map[string]func(p api.Tree, typ string, l []api.Tree) (api.Errno, bool){
		"Useful": func(p api.Tree, typ string, l []api.Tree) (api.Errno, bool) {
			is, e := Useful(p, typ, l, api.Tree{{Op: api.PWild}})
			return e, is
		},
		"Missing": func(p api.Tree, typ string, l []api.Tree) (api.Errno, bool) {
			m, is, e := Missing(p, typ, l)
			return e, is || len(m) > 0
		},
		"Redundant": func(p api.Tree, typ string, l []api.Tree) (api.Errno, bool) {
			r, e := Redundant(p, typ, l)
			return e, len(r) > 0
		},
		"Compile": func(p api.Tree, typ string, l []api.Tree) (api.Errno, bool) {
			d, e := Compile(p, typ, l)
			return e, len(d) > 0
		},
	}
}

func TestListErrors(t *testing.T) { // P10.1, P10.2, P10.3
	p := program(t, declarations)
	many := append(pats(t, times("_;", 32)), nil)
	for _, c := range []struct {
		p    api.Tree
		typ  string
		l    []api.Tree
		want api.Errno
	}{
		{nil, "x", many, api.ErrEmpty}, {pat(t, "_"), "int", many, api.ErrKind}, {p, "x", many, api.ErrSyntax}, {p, "Nowhere", many, api.ErrUnknown}, {p, "Box", many, api.ErrArgs}, {p, "Round", many, api.ErrCycle}, {p, "seq<Round>", many, api.ErrCycle}, {p, "D", many, api.ErrMany}, {p, "D", []api.Tree{nil}, api.ErrEmpty},
		{p, "D", []api.Tree{{{Op: api.EInt, Text: "1"}}}, api.ErrKind}, {p, "D", pats(t, "Nil;Cons(x, x);0"), api.ErrTwice}, {p, "D", pats(t, "Nil;0;Cons(x, x)"), api.ErrType}, {p, "D", pats(t, "Cons(1)"), api.ErrArgs}, {p, "D", pats(t, "_;Cons(true);0"), api.ErrArgs}, {p, "D", pats(t, "Cons(0, Other, x)"), api.ErrArgs}, {p, "D", pats(t, "Cons(0, Cons(true))"), api.ErrArgs}, {p, "D", pats(t, "Red"), api.ErrUnknown}, {p, "bv2", pats(t, "3;4"), api.ErrRange},
	} {
		for name, ask := range asks() {
			if e, more := ask(c.p, c.typ, c.l); e != c.want || more {
				t.Errorf("%s for %s: %d, %v, want %d", name, c.typ, e, more, c.want)
			}
		}
	}
	for name, ask := range asks() {
		if e, _ := ask(p, "D", many[:32]); e != api.OK {
			t.Errorf("%s of 32 patterns: %d", name, e)
		}
	}
	// The pattern of Useful comes behind the list.
	for s, want := range map[string]api.Errno{"0": api.ErrType, "Cons(x, x)": api.ErrTwice, "Nil(_)": api.ErrArgs, "Cons(true)": api.ErrArgs, "Cons(0, Cons(x, x, x))": api.ErrArgs} {
		if is, e := Useful(p, "D", pats(t, "Nil"), pat(t, s)); is || e != want {
			t.Errorf("Useful of %s: %v, %d", s, is, e)
		}
		if is, e := Useful(p, "D", pats(t, "Nil;Red"), pat(t, s)); is || e != api.ErrUnknown {
			t.Errorf("Useful of %s behind a wrong pattern: %v, %d", s, is, e)
		}
	}
	if is, e := Useful(p, "D", nil, nil); is || e != api.ErrEmpty {
		t.Errorf("Useful of no pattern: %v, %d", is, e)
	}
}

// wideProgram has a datatype with a constructor with some fields of bool, and another one without fields.
func wideProgram(t *testing.T, fields int) api.Tree {
	var l []string
	for i := range fields {
		l = append(l, "f"+strconv.Itoa(i)+": bool")
	}
	return program(t, "datatype W = V("+strings.Join(l, ", ")+") | U datatype E = L(e: E) | N | Z(w: W)")
}

// diagonal are patterns each of which asks for true at its own place, and for false at the next one.
func diagonal(t *testing.T, fields, rows int) []api.Tree {
	var l []api.Tree
	for i := range rows {
		places := slices.Repeat([]string{"_"}, fields)
		places[2*i], places[2*i+1] = "true", "false"
		l = append(l, pat(t, "V("+strings.Join(places, ", ")+")"))
	}
	return l
}

func TestLimits(t *testing.T) { // P10.1, P10.2, P10.3
	p := wideProgram(t, 40)
	for name, ask := range asks() {
		// Each pattern doubles the questions and the tests, at least.
		if e, more := ask(p, "W", append(diagonal(t, 40, 20), pats(t, "_;_")...)); e != api.ErrLimit || more {
			t.Errorf("%s of many questions: %d, %v", name, e, more)
		}
		if e, _ := ask(p, "W", append(diagonal(t, 40, 3), pats(t, "_;_")...)); e != api.OK {
			t.Errorf("%s of few questions: %d", name, e)
		}
	}
	// A tree has 1000 tests at most.
	for n, want := range map[int]int{1: 7, 2: 15, 3: 31, 7: 511, 8: 0} {
		d, e := Compile(p, "W", append(diagonal(t, 40, n), pat(t, "_")))
		if len(d) != want || (e == api.OK) != (want > 0) || e != api.OK && e != api.ErrLimit {
			t.Errorf("Compile of %d rows: %d tests, %d", n, len(d), e)
		}
	}
}

// TestQuestions counts the questions about r patterns of a constructor with n fields, and u patterns of another one: the
// first one with r + u rows, n + 1 with r rows behind it, and one with u rows.
func TestQuestions(t *testing.T) { // P10.2
	for _, c := range []struct {
		n, r, u int
		want    api.Errno
	}{{1331, 14, 2, api.OK}, {1332, 14, 2, api.ErrLimit}, {1331, 14, 3, api.ErrLimit}, {1109, 17, 1, api.ErrLimit}, {1109, 17, 0, api.OK}, {5, 3, 1, api.OK}} {
		total := (c.r + c.u + 1) + (c.n+1)*(c.r+1) + (c.u + 1)
		if (total > 20000) != (c.want == api.ErrLimit) {
			t.Fatalf("%v: %d", c, total)
		}
		wide := append(slices.Repeat(pats(t, "V("+times("_, ", c.n-1)+"_)"), c.r), slices.Repeat(pats(t, "U"), c.u)...)
		m, is, e := Missing(wideProgram(t, c.n), "W", wide)
		if e != c.want || is != (c.u == 0) || c.u == 0 && text(m) != "U" {
			t.Errorf("Missing of %v: %s, %v, %d", c, text(m), is, e)
		}
	}
}

func TestMissingTooLarge(t *testing.T) { // P10.2
	chain := program(t, "datatype C = A(c: C) | B")
	nested := func(n int, inside string) string { return times("A(", n) + inside + times(")", n) }
	for n, want := range map[int]api.Errno{58: api.OK, 59: api.ErrDeep} {
		// What is missing beside a pattern can be one level deeper.
		m, is, e := Missing(chain, "C", pats(t, nested(n, "B")))
		if e != want || is != (want == api.OK) || is && text(m) != nested(n+1, "_") || !is && m != nil {
			t.Errorf("Missing at the depth %d: %s, %v, %d", n, text(m), is, e)
		}
	}
	var wide, fields []string
	for i := range 1000 {
		wide = append(wide, "b"+strconv.Itoa(i)+": bool")
		fields = append(fields, "w"+strconv.Itoa(i)+": W")
	}
	p := program(t, "datatype X = U | B("+strings.Join(wide, ", ")+") datatype W = V("+strings.Join(fields[:899], ", ")+", x: X)")
	row := func(inside int) []api.Tree {
		v := "V(" + times("_, ", 899) + "_)"
		return pats(t, "V("+times(v+", ", inside)+times("_, ", 899-inside)+"U)")
	}
	m, is, e := Missing(p, "W", row(2))
	if len(m) != 3*901-2+1000 || !is || e != api.OK {
		t.Errorf("Missing with %d nodes: %v, %d", len(m), is, e)
	}
	m, is, e = Missing(p, "W", row(3))
	if m != nil || is || e != api.ErrMany {
		t.Errorf("Missing with %d nodes: %v, %d", len(m), is, e)
	}
}
