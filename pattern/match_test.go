package pattern

import (
	"slices"
	"strings"
	"testing"

	"entail/api"
)

// deep is a list of some length that ends with an empty one.
func deep(n int) string { return times("Cons(1, ", n) + "Nil()" + times(")", n) }

func TestCheck(t *testing.T) { // P10.1
	p := program(t, declarations)
	for _, c := range []struct{ typ, pattern, want string }{
		{"D", "_", ""}, {"D", "x", "x: D"}, {"D", "Nil", ""}, {"D", "Cons(x, Cons(y, _))", "x: int, y: int"}, {"D", "Cons(-3, t)", "t: D"}, {"int", "0", ""}, {"int", "-0", ""}, {"int", "-5", ""}, {"int", times("9", 120), ""},
		{"bool", "true", ""}, {"bool", "false", ""}, {"bool", "x", "x: bool"}, {"real", "x", "x: real"}, {"seq<Nat>", "x", "x: seq<int>"}, {"Cell", "x", "x: Cell"}, {"array<Nat>", "x", "x: array<int>"}, {"map<Nat,D>", "_", ""},
		{"bv1", "1", ""}, {"bv8", "255", ""}, {"bv8", "0", ""}, {"bv8", "-0", ""}, {"bv64", "18446744073709551615", ""},
		// Base types: of the type that is given, of arguments, and of fields.
		{"Nat", "x", "x: int"}, {"Nat", "7", ""}, {"Sub", "Full(x)", "x: bool"}, {"Sub", "Full(true)", ""}, {"Box<Nat>", "Full(x)", "x: int"}, {"Box<Box<Nat>>", "Full(Full(-2))", ""}, {"Box<Sub>", "Full(Full(x))", "x: bool"},
		{"Mix", "Mix1(a, b, c)", "a: int, b: Box<int>, c: Color"}, {"Mix", "Mix1(-1, Full(x), Blue)", "x: int"}, {"Mix", "Mix2(r, s, 3, k)", "r: real, s: seq<int>, k: Cell"}, {"Mix", "Mix3(true, 31, 0)", ""},
		{"M::Q", "M::P(M::P(x))", "x: M::Q"}, {"Box<map<int,seq<Nat>>>", "Full(m)", "m: map<int,seq<int>>"},
		// Types without a base, and types that are no types, have variables alone.
		{"Odd", "Bad(_)", ""}, {"Odd", "Ill(_)", ""}, {"Odd", "Any(x)", "x: Nowhere"}, {"Odd", "Gone(Any(_))", ""},
		{"Grow<int>", "G(G(Stop(x)))", "x: seq<seq<int>>"}, {"Same", "S(1)", ""}, {"Same", "T", ""},
	} {
		vars, at, e := Check(p, c.typ, pat(t, c.pattern))
		var got []string
		for _, v := range vars {
			got = append(got, v.Name+": "+v.Sort)
		}
		if strings.Join(got, ", ") != c.want || at != 0 || e != api.OK {
			t.Errorf("Check of %s for %s: %v, %d at %d", c.pattern, c.typ, got, e, at)
		}
	}
}

func TestCheckErrors(t *testing.T) { // P10.1
	p := program(t, declarations)
	for _, c := range []struct {
		typ, pattern string
		at           int
		want         api.Errno
	}{
		// Nodes: of a literal the one above its number; the least one decides, and a part comes before what it is in.
		{"D", "Cons(true, _)", 1, api.ErrType}, {"D", "Cons(x, x)", 1, api.ErrTwice}, {"D", "Cons(x, Cons(y, x))", 2, api.ErrTwice}, {"D", "Cons(x, Cons(x, y))", 1, api.ErrTwice}, {"D", "Cons(_)", 1, api.ErrArgs}, {"D", "Cons", 0, api.ErrArgs}, {"D", "Nil(_)", 1, api.ErrArgs},
		{"D", "Cons(x, y, z)", 3, api.ErrArgs}, {"D", "One", 0, api.ErrUnknown}, {"D", "Red", 0, api.ErrUnknown}, {"D", "M::Nil", 0, api.ErrUnknown}, {"D", "Cons(1, One(true, true))", 6, api.ErrUnknown}, {"D", "Cons(1, Cons(2, 3))", 5, api.ErrType},
		{"D", "0", 1, api.ErrType}, {"D", "-1", 2, api.ErrType}, {"bool", "0", 1, api.ErrType}, {"int", "true", 1, api.ErrType}, {"real", "0", 1, api.ErrType}, {"seq<int>", "1", 1, api.ErrType}, {"Cell", "1", 1, api.ErrType}, {"Cell", "Cell", 0, api.ErrUnknown},
		{"int", "Nil", 0, api.ErrUnknown}, {"bool", "Nil(x, x)", 2, api.ErrUnknown}, {"array<D>", "Nil", 0, api.ErrUnknown}, {"seq<D>", "Nil", 0, api.ErrUnknown}, {"bv8", "true", 1, api.ErrType}, {"bv8", "256", 1, api.ErrRange}, {"bv8", "-1", 2, api.ErrRange}, {"bv1", "2", 1, api.ErrRange},
		{"bv64", "18446744073709551616", 1, api.ErrRange}, {"Box<bool>", "Full(1)", 1, api.ErrType}, {"Box<Nat>", "Full(true)", 1, api.ErrType}, {"Sub", "Full(0)", 1, api.ErrType}, {"Mix", "Mix2(1, _, _, _)", 1, api.ErrType}, {"Mix", "Mix2(_, _, 4, _)", 3, api.ErrRange},
		// No part of a constructor with a wrong number of parts is looked at, neither one that has a field nor one beyond.
		{"D", "Cons(true)", 2, api.ErrArgs}, {"D", "Cons(Nil)", 1, api.ErrArgs}, {"D", "Cons(One(x, x))", 3, api.ErrArgs}, {"D", "Cons(true, Nil, x)", 4, api.ErrArgs}, {"D", "Cons(0, Other, x)", 4, api.ErrArgs}, {"D", "Cons(x, x, x)", 3, api.ErrArgs}, {"D", "Cons(Nil(1), _, _)", 5, api.ErrArgs},
		{"D", "Cons(1, 2, true)", 6, api.ErrArgs}, {"D", "Cons(1, _, One)", 4, api.ErrArgs}, {"D", "Cons(x, _, x)", 3, api.ErrArgs}, {"D", "Nil(x, x)", 2, api.ErrArgs}, {"D", "Nil(One, One)", 2, api.ErrArgs}, {"D", "Nil(Nil(Nil(1)))", 4, api.ErrArgs}, {"Mix", "Mix2(true, 0, 4)", 6, api.ErrArgs}, {"Sub", "Full(1, 1)", 4, api.ErrArgs}, {"Mix", "Mix3(true, 32)", 4, api.ErrArgs},
		// The same inside of a right constructor, where errors before it come first and those behind it do not.
		{"D", "Cons(0, Cons(true))", 4, api.ErrArgs}, {"D", "Cons(true, Cons(true))", 1, api.ErrType}, {"D", "Cons(x, Cons(x))", 2, api.ErrArgs}, {"D", "Cons(x, Cons(y, Cons(x, y, x)))", 5, api.ErrArgs}, {"D", "Cons(x, Cons(x, Nil(true)))", 1, api.ErrTwice}, {"D", "Cons(0, Nil(Cons(x)))", 4, api.ErrArgs}, {"Mix", "Mix1(0, Full(true, 1), One)", 6, api.ErrArgs}, {"Mix", "Mix1(true, Full, 0)", 1, api.ErrType},
		// Nodes below a wrong constructor are not looked at.
		{"D", "One(x, x, 1, Nil(_))", 6, api.ErrUnknown}, {"D", "Cons(One(x, x), true)", 2, api.ErrUnknown},
		{"Odd", "Bad(1)", 1, api.ErrType}, {"Odd", "Ill(Empty)", 0, api.ErrUnknown}, {"Odd", "Any(Red)", 0, api.ErrUnknown}, {"Same", "S(true)", 1, api.ErrType}, {"Same", "S(true, 1)", 4, api.ErrArgs}, {"Same", "S(1, 1)", 4, api.ErrArgs},
	} {
		vars, at, e := Check(p, c.typ, pat(t, c.pattern))
		if len(vars) > 0 || at != c.at || e != c.want {
			t.Errorf("Check of %s for %s: %v, %d at %d, want %d at %d", c.pattern, c.typ, vars, e, at, c.want, c.at)
		}
	}
	expression := api.Tree{{Op: api.EInt, Text: "1"}}
	wide := append(slices.Repeat(api.Tree{{Op: api.PWild}}, 4000), api.Node{Op: api.PCons, Text: "Nil"})
	for _, c := range []struct {
		p       api.Tree
		typ     string
		pattern api.Tree
		at      int
		want    api.Errno
	}{
		// The errors of the program and of the type come first.
		{nil, "x", nil, 0, api.ErrEmpty}, {expression, "x", nil, 0, api.ErrKind}, {p, "x", nil, 0, api.ErrSyntax}, {p, times("A", 401), nil, 0, api.ErrLong}, {p, "T", nil, 0, api.ErrUnknown}, {p, "Box", nil, 0, api.ErrArgs}, {p, "Round", nil, 0, api.ErrCycle}, {p, "Red", nil, 0, api.ErrUnknown},
		{p, "D", nil, 0, api.ErrEmpty}, {p, "D", wide, 0, api.ErrMany}, {p, "D", api.Tree{{Op: api.PWild}, {Op: api.PVar, Text: "X"}}, 1, api.ErrName}, {p, "D", api.Tree{{Op: api.PWild}, {Op: api.PWild}}, 1, api.ErrForm}, {p, "D", api.Tree{{Op: 200}}, 0, api.ErrKind},
		{p, "D", expression, 0, api.ErrKind}, {p, "int", expression, 0, api.ErrKind}, {p, "D", p, len(p) - 1, api.ErrKind},
	} {
		vars, at, e := Check(c.p, c.typ, c.pattern)
		if len(vars) > 0 || at != c.at || e != c.want {
			t.Errorf("Check for %.20s: %v, %d at %d, want %d at %d", c.typ, vars, e, at, c.want, c.at)
		}
	}
	// Types grow with the depth of a pattern until they are too long to have constructors.
	if _, _, e := Check(p, "Grow<"+times("seq<", 50)+"int"+times(">", 50)+">", pat(t, times("G(", 50)+"Stop(_)"+times(")", 50))); e != api.ErrUnknown {
		t.Errorf("Check for a type that is too long: %d", e)
	}
}

func TestMatch(t *testing.T) { // P10.1
	for _, c := range []struct{ pattern, value, want string }{
		{"_", "1", ""}, {"x", "[1, 2]", "x = [1, 2]"}, {"Nil", "Nil()", ""}, {"Nil", "M::Nil()", "no"}, {"M::Nil", "M::Nil()", ""}, {"Nil", "Cons(1, Nil())", "no"}, {"Nil", "Nil(1)", "no"}, {"Nil", "0", "no"}, {"Cons(x, y)", "Cons(1, Nil())", "x = 1, y = Nil()"},
		{"Cons(x, Cons(y, _))", "Cons(1, Cons(2, Nil()))", "x = 1, y = 2"}, {"Cons(x, Cons(y, _))", "Cons(1, Nil())", "no"}, {"Cons(x)", "Cons(1, 2)", "no"}, {"Cons(x, y, _)", "Cons(1, 2)", "no"}, {"Cons(Cons(a, b), c)", "Cons(Cons(1, 2), 3)", "a = 1, b = 2, c = 3"},
		{"1", "1", ""}, {"1", "2", "no"}, {"-1", "-1", ""}, {"-1", "1", "no"}, {"-0", "0", ""}, {"1", "1/1", "no"}, {"1", "true", "no"}, {"1", "1bv8", ""}, {"1", "1bv64", ""}, {"1", "2bv8", "no"}, {"-0", "0bv1", ""}, {"-1", "1bv8", "no"}, {"1", "#1", "no"}, {"0", "[]", "no"},
		{"true", "true", ""}, {"true", "false", "no"}, {"false", "false", ""}, {"false", "0", "no"}, {"true", "1bv1", "no"}, {"Cons(0, false)", "Cons(0, false)", ""}, {"Cons(x, 1)", "Cons(0, 2)", "no"}, {"x", "map[1 := 2]", "x = map[1 := 2]"}, {"Cons(x, _)", "Cons({1, 2}, 1/2)", "x = {1, 2}"},
		{times("Cons(_, ", 59) + "x" + times(")", 59), deep(59), "x = Nil()"},
	} {
		l, is, e := Match(pat(t, c.pattern), val(t, c.value))
		var got []string
		for _, b := range l {
			got = append(got, b.Name+" = "+say(b.Value))
		}
		if want := strings.TrimPrefix(c.want, "no"); strings.Join(got, ", ") != want || is != (c.want != "no") || e != api.OK {
			t.Errorf("Match of %s and %s: %v, %v, %d", c.pattern, c.value, got, is, e)
		}
	}
	v := val(t, "Cons([1, 2], Nil())")
	l, _, _ := Match(pat(t, "Cons(x, _)"), v)
	v.Items[0].Items[0].Num = "7"
	if say(l[0].Value) != "[1, 2]" {
		t.Errorf("Match shares memory with the value")
	}
}

func TestMatchErrors(t *testing.T) { // P10.1
	bad := api.Value{Kind: api.VInt, Num: "01"}
	good := api.Value{Kind: api.VInt, Num: "1"}
	number := api.Tree{{Op: api.EInt, Text: "1"}}
	for _, c := range []struct {
		pattern api.Tree
		v       api.Value
		want    api.Errno
	}{
		{nil, bad, api.ErrEmpty}, {api.Tree{{Op: api.PVar, Text: ""}}, bad, api.ErrName}, {number, bad, api.ErrKind}, {pat(t, "C(x, x)"), bad, api.ErrTwice}, {pat(t, "C(x, D(y, x))"), good, api.ErrTwice}, {pat(t, "x"), bad, api.ErrForm}, {pat(t, "_"), api.Value{Kind: 99}, api.ErrKind},
		{pat(t, "_"), api.Value{Kind: api.VBits, Text: "8", Num: "256"}, api.ErrRange},
	} {
		if l, is, e := Match(c.pattern, c.v); len(l) > 0 || is || e != c.want {
			t.Errorf("Match: %v, %v, %d, want %d", l, is, e, c.want)
		}
		if n, e := First([]api.Tree{pat(t, "Nil"), c.pattern}, c.v); n != 0 || e != c.want {
			t.Errorf("First: %d, %d, want %d", n, e, c.want)
		}
	}
	wild := pats(t, times("Nil;", 200))
	if n, e := First(wild, good); n != -1 || e != api.OK {
		t.Errorf("First of 200 patterns: %d, %d", n, e)
	}
	if n, e := First(append(wild, nil), bad); n != 0 || e != api.ErrMany {
		t.Errorf("First of 201 patterns: %d, %d", n, e)
	}
	// The first pattern with an error decides.
	if n, e := First([]api.Tree{pat(t, "x"), number, nil}, bad); n != 0 || e != api.ErrKind {
		t.Errorf("First: %d, %d", n, e)
	}
}

func TestFirst(t *testing.T) { // P10.1
	for _, c := range []struct {
		patterns, value string
		want            int
	}{
		{"", "1", -1}, {"0;1;_", "1", 1}, {"0;1;_", "7", 2}, {"0;1", "7", -1}, {"Nil;Cons(0, _);Cons(_, t)", "Cons(0, Nil())", 1}, {"Nil;Cons(0, _);Cons(_, t)", "Cons(3, Nil())", 2}, {"_;_", "true", 0}, {"3;x", "3bv2", 0}, {"false;true", "true", 1},
	} {
		if n, e := First(pats(t, c.patterns), val(t, c.value)); n != c.want || e != api.OK {
			t.Errorf("First of %s for %s: %d, %d", c.patterns, c.value, n, e)
		}
	}
}

func TestPath(t *testing.T) { // P10.1
	for _, c := range []struct {
		value string
		path  []int
		want  string
	}{
		{"7", nil, "7"}, {"Cons(7, Nil())", []int{}, "Cons(7, Nil())"}, {"Cons(7, Nil())", []int{0}, "7"}, {"Cons(7, Nil())", []int{1}, "Nil()"}, {"Cons(7, Cons(8, Nil()))", []int{1, 0}, "8"}, {"Cons([1, 2], Nil())", []int{0}, "[1, 2]"},
		{"Cons(7, Nil())", []int{2}, ""}, {"Cons(7, Nil())", []int{-1}, ""}, {"Nil()", []int{0}, ""}, {"7", []int{0}, ""}, {"[7]", []int{0}, ""}, {"{7}", []int{0}, ""}, {"map[1 := 2]", []int{0}, ""}, {"Cons([1, 2], Nil())", []int{0, 0}, ""}, {"Cons(7, Nil())", []int{1, 0, -5}, ""},
		{deep(59), slices.Repeat([]int{1}, 59), "Nil()"}, {deep(59), slices.Repeat([]int{1}, 100), ""},
	} {
		v, e := Path(val(t, c.value), c.path)
		want := api.OK
		if c.want == "" {
			want = api.ErrRange
		}
		if e != want || e == api.OK && say(v) != c.want || e != api.OK && (v.Kind != 0 || v.Num != "" || v.Items != nil) {
			t.Errorf("Path of %s at %v: %s, %d", c.value, c.path, say(v), e)
		}
	}
	if _, e := Path(api.Value{Kind: api.VInt}, []int{-1}); e != api.ErrForm {
		t.Errorf("Path of no value: %d", e)
	}
	v := val(t, "Cons([1], Nil())")
	part, _ := Path(v, []int{0})
	part.Items[0].Num = "7"
	if say(v) != "Cons([1], Nil())" {
		t.Errorf("Path shares memory with the value")
	}
}
