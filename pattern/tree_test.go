package pattern

import (
	"slices"
	"strings"
	"testing"

	"entail/api"
)

func TestCompile(t *testing.T) { // P10.3
	p := program(t, declarations)
	for _, c := range []struct{ typ, patterns, want string }{
		{"D", "", "case -1"}, {"D", "_;Nil", "case 0"}, {"D", "x", "case 0"}, {"real", "x;_", "case 0"}, {"D", "Nil;Cons(0, _);Cons(_, t)", "test - Nil -> 1 Cons -> 2/case 0/test 0 0 -> 3 else 4/case 1/case 2"}, {"D", "Nil", "test - Nil -> 1 else 2/case 0/case -1"},
		{"D", "Cons(_, _);Nil", "test - Cons -> 1 Nil -> 2/case 0/case 1"}, {"bool", "false;true", "test - false -> 1 true -> 2/case 0/case 1"}, {"bool", "true", "test - true -> 1 else 2/case 0/case -1"}, {"bool", "true;_;false", "test - true -> 1 false -> 2/case 0/case 1"},
		{"int", "3;-5;3;_", "test - 3 -> 1 -5 -> 2 else 3/case 0/case 1/case 3"}, {"int", "-0", "test - 0 -> 1 else 2/case 0/case -1"}, {"bv1", "1;0", "test - 1bv1 -> 1 0bv1 -> 2/case 0/case 1"}, {"bv8", "3;_", "test - 3bv8 -> 1 else 2/case 0/case 1"},
		{"bv5", "31", "test - 31bv5 -> 1 else 2/case 0/case -1"}, {"Nat", "7", "test - 7 -> 1 else 2/case 0/case -1"}, {"Color", "Blue;Red;Green", "test - Blue -> 1 Red -> 2 Green -> 3/case 0/case 1/case 2"}, {"M::Q", "M::P(M::O);_", "test - M::P -> 1 else 4/test 0 M::O -> 2 else 3/case 0/case 1/case 1"},
		// The first place at which the first row has a head; the paths of parts stand for the path of the whole.
		{"Pair", "P(_, true);P(true, _)", "test - P -> 1/test 1 true -> 2 else 3/case 0/test 0 true -> 4 else 5/case 1/case -1"},
		{"D", "Cons(_, Cons(1, _));Cons(2, Nil);_", "test - Cons -> 1 else 8/test 1 Cons -> 2 Nil -> 5/test 1.0 1 -> 3 else 4/case 0/case 2/test 0 2 -> 6 else 7/case 1/case 2/case 2"},
		{"Same", "S(1);T", "test - S -> 1 T -> 4/test 0 1 -> 2 else 3/case 0/case -1/case 1"},
	} {
		d, e := Compile(p, c.typ, pats(t, c.patterns))
		s, f := Print(d)
		if s != strings.ReplaceAll(c.want, "/", "\n")+"\n" || e != api.OK || f != api.OK {
			t.Errorf("Compile of %s for %s: %s%d, %d", c.patterns, c.typ, s, e, f)
		}
		for _, x := range d {
			if x.Leaf && (x.Path != nil || x.Labels != nil || x.Next != nil || x.Else != 0) || !x.Leaf && x.Case != 0 {
				t.Errorf("Compile of %s: %v", c.patterns, x)
			}
		}
	}
}

// leaf and test make tests of a table.
func leaf(n int) Test { return Test{Leaf: true, Case: n} }

func test(path []int, labels string, other int, next ...int) Test {
	return Test{Path: path, Labels: strings.Fields(labels), Next: next, Else: other}
}

func TestCheckTests(t *testing.T) { // P10.3
	good := func() []Test {
		return []Test{test(nil, "Nil Cons", -1, 1, 2), leaf(0), test([]int{0}, "0", 4, 3), leaf(31), leaf(-1)}
	}
	with := func(at int, change func(x *Test)) []Test {
		d := good()
		change(&d[at])
		return d
	}
	long := slices.Repeat([]int{1}, 61)
	var wide []Test
	for i := range 500 {
		wide = append(wide, test(nil, "a", 2*i+2, 2*i+1), leaf(0))
	}
	wide = append(wide[:998], leaf(0))
	for _, c := range []struct {
		d    []Test
		at   int
		want api.Errno
	}{
		{good(), 0, api.OK}, {[]Test{leaf(-1)}, 0, api.OK}, {[]Test{leaf(31)}, 0, api.OK}, {nil, 0, api.ErrEmpty}, {wide, 0, api.OK}, {make([]Test, 1001), 0, api.ErrMany}, {make([]Test, 1000), 0, api.ErrEmpty}, {[]Test{leaf(32)}, 0, api.ErrRange}, {[]Test{leaf(-2)}, 0, api.ErrRange},
		{with(1, func(x *Test) { x.Case = 40; x.Path = long }), 1, api.ErrRange}, {with(1, func(x *Test) { x.Path = []int{0} }), 1, api.ErrForm}, {with(1, func(x *Test) { x.Labels = []string{"a"} }), 1, api.ErrForm}, {with(1, func(x *Test) { x.Next = []int{3} }), 1, api.ErrForm}, {with(1, func(x *Test) { x.Else = -1 }), 1, api.ErrForm},
		{with(1, func(x *Test) { x.Else = 2 }), 1, api.ErrForm}, {with(2, func(x *Test) { x.Case = 1; x.Labels = nil }), 2, api.ErrForm}, {with(2, func(x *Test) { x.Case = -1 }), 2, api.ErrForm}, {with(2, func(x *Test) { x.Labels = nil }), 2, api.ErrEmpty}, {with(2, func(x *Test) { x.Labels = nil; x.Next = nil }), 2, api.ErrEmpty},
		{with(2, func(x *Test) { x.Next = nil }), 2, api.ErrShape}, {with(2, func(x *Test) { x.Labels = []string{"a", "a"} }), 2, api.ErrShape}, {with(0, func(x *Test) { x.Labels = []string{"a", "a"}; x.Path = long }), 0, api.ErrTwice}, {with(0, func(x *Test) { x.Labels = []string{"", ""} }), 0, api.ErrTwice},
		{with(2, func(x *Test) { x.Path = []int{0, -1}; x.Else = 0 }), 2, api.ErrRange}, {with(2, func(x *Test) { x.Path = long }), 2, api.ErrRange}, {with(2, func(x *Test) { x.Path = long[1:] }), 0, api.OK},
		{with(2, func(x *Test) { x.Next[0] = 2 }), 2, api.ErrOrder}, {with(2, func(x *Test) { x.Next[0] = 1 }), 2, api.ErrOrder}, {with(2, func(x *Test) { x.Next[0] = 5 }), 2, api.ErrOrder}, {with(2, func(x *Test) { x.Next[0] = -1 }), 2, api.ErrOrder}, {with(2, func(x *Test) { x.Else = 5 }), 2, api.ErrOrder},
		{with(2, func(x *Test) { x.Else = -2 }), 2, api.ErrOrder}, {with(2, func(x *Test) { x.Else = 0 }), 2, api.ErrOrder}, {with(0, func(x *Test) { x.Else = 0 }), 0, api.ErrOrder},
		// To each test but the first one leads one other one.
		{with(2, func(x *Test) { x.Else = -1 }), 4, api.ErrOpen}, {with(2, func(x *Test) { x.Else = 3 }), 3, api.ErrTwice}, {with(0, func(x *Test) { x.Else = 3 }), 3, api.ErrTwice}, {with(0, func(x *Test) { x.Next[0] = 2 }), 1, api.ErrOpen}, {with(0, func(x *Test) { x.Next[0] = 3 }), 1, api.ErrOpen},
		{[]Test{leaf(0), leaf(1)}, 1, api.ErrOpen}, {[]Test{test(nil, "a b", -1, 1, 1), leaf(0)}, 1, api.ErrTwice}, {append(good(), leaf(40)), 5, api.ErrRange},
	} {
		if at, e := CheckTests(c.d); at != c.at || e != c.want {
			t.Errorf("CheckTests of %v: %d at %d, want %d at %d", c.d, e, at, c.want, c.at)
		}
		if c.want == api.OK {
			continue
		}
		if n, made, e := Run(c.d, api.Value{Kind: 99}); n != 0 || made != 0 || e != c.want {
			t.Errorf("Run of %v: %d, %d, %d", c.d, n, made, e)
		}
		if s, e := Print(c.d); s != "" || e != c.want {
			t.Errorf("Print of %v: %s, %d", c.d, s, e)
		}
	}
}

func TestRun(t *testing.T) { // P10.3
	tree := []Test{test(nil, "Nil Cons", -1, 1, 2), leaf(0), test([]int{0}, "0 [1] #3 1/2 2bv8 true", 9, 3, 4, 5, 6, 7, 8), leaf(1), leaf(2), leaf(3), leaf(4), leaf(5), leaf(6), test([]int{1, 0}, "Nil", 11, 10), leaf(7), leaf(-1)}
	for _, c := range []struct {
		value     string
		n, made   int
		wantError api.Errno
	}{
		{"Nil()", 0, 1, api.OK}, {"Cons(0, Nil())", 1, 2, api.OK}, {"Cons([1], Nil())", 2, 2, api.OK}, {"Cons(#3, Nil())", 3, 2, api.OK}, {"Cons(1/2, Nil())", 4, 2, api.OK}, {"Cons(2bv8, Nil())", 5, 2, api.OK}, {"Cons(true, Nil())", 6, 2, api.OK}, {"Cons(1, Cons(Nil(), 1))", 7, 3, api.OK}, {"Cons(1, Cons(Nil(2), 1))", 7, 3, api.OK},
		{"Cons(1, Cons(1, 1))", -1, 3, api.OK}, {"Nil(1)", 0, 1, api.OK}, {"Cons()", 0, 0, api.ErrKind}, {"Cons(1, Nil())", 0, 0, api.ErrKind}, {"Cons(1, [1])", 0, 0, api.ErrKind}, {"Other()", 0, 0, api.ErrMissing}, {"1", 0, 0, api.ErrMissing}, {"M::Nil()", 0, 0, api.ErrMissing},
	} {
		n, made, e := Run(tree, val(t, c.value))
		if n != c.n || made != c.made || e != c.wantError {
			t.Errorf("Run for %s: %d, %d, %d", c.value, n, made, e)
		}
	}
	for _, d := range [][]Test{tree, {leaf(3)}} {
		if n, made, e := Run(d, api.Value{Kind: api.VInt, Num: "-0"}); n != 0 || made != 0 || e != api.ErrForm {
			t.Errorf("Run for no value: %d, %d, %d", n, made, e)
		}
	}
	if n, made, e := Run([]Test{leaf(3)}, val(t, "1")); n != 3 || made != 0 || e != api.OK {
		t.Errorf("Run of a leaf: %d, %d, %d", n, made, e)
	}
}

func TestPrint(t *testing.T) { // P10.3
	d := []Test{test([]int{10, 0, 3}, "A M::B -7 3bv8", 5, 1, 2, 3, 4), leaf(-1), leaf(0), leaf(31), leaf(7), test(nil, "x", -1, 6), leaf(2)}
	want := "test 10.0.3 A -> 1 M::B -> 2 -7 -> 3 3bv8 -> 4 else 5\ncase -1\ncase 0\ncase 31\ncase 7\ntest - x -> 6\ncase 2\n"
	if s, e := Print(d); s != want || e != api.OK {
		t.Errorf("Print: %s, %d", s, e)
	}
}
