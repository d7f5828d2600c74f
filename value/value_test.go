package value

import (
	"math/rand"
	"slices"
	"strconv"
	"strings"
	"testing"

	"entail/api"
	"entail/num"
	"entail/parse"
)

func times(s string, n int) string { return strings.Repeat(s, n) }

// of reads a value.
func of(t *testing.T, s string) api.Value {
	t.Helper()
	v, at, e := ParseText(s)
	if e != api.OK {
		t.Fatalf("ParseText(%.80q): %d, %d", s, at, e)
	}
	return v
}

func text(v api.Value) string {
	s, e := Text(v)
	if e != api.OK {
		return "error " + strconv.Itoa(int(e))
	}
	return s
}

func number(n int) api.Value { return api.Value{Kind: api.VInt, Num: strconv.Itoa(n)} }

func listed(kind int, items ...api.Value) api.Value { return api.Value{Kind: kind, Items: items} }

// nested puts a value into n sequences.
func nested(n int, v api.Value) api.Value {
	for range n {
		v = listed(api.VSeq, v)
	}
	return v
}

// numbers makes a list of different integers.
func numbers(n int) []api.Value {
	var l []api.Value
	for i := range n {
		l = append(l, number(i))
	}
	return l
}

func TestCheck(t *testing.T) { // P6.1
	one, two := number(1), number(2)
	nines := times("9", api.MaxDigits)
	cons := func(s string) api.Value { return api.Value{Kind: api.VCons, Text: s} }
	for i, c := range []struct {
		v    api.Value
		want api.Errno
	}{
		{api.Value{Kind: api.VBool, Num: "0"}, api.OK}, {api.Value{Kind: api.VBool, Num: "1"}, api.OK}, {api.Value{}, api.ErrForm}, {api.Value{Num: "2"}, api.ErrForm}, {api.Value{Num: "true"}, api.ErrForm}, {api.Value{Num: "1", Text: "1"}, api.ErrForm},
		{api.Value{Num: "1", Items: []api.Value{one}}, api.ErrForm}, {api.Value{Num: "1", Items: []api.Value{}}, api.OK}, {api.Value{Kind: -1}, api.ErrKind}, {api.Value{Kind: 10, Num: "1"}, api.ErrKind}, {api.Value{Kind: api.Kinds, Text: "x"}, api.ErrKind},
		{number(-7), api.OK}, {api.Value{Kind: api.VInt, Num: nines}, api.OK}, {api.Value{Kind: api.VInt, Num: nines + "9"}, api.ErrForm}, {api.Value{Kind: api.VInt, Num: "01"}, api.ErrForm}, {api.Value{Kind: api.VInt, Num: "-0"}, api.ErrForm},
		{api.Value{Kind: api.VInt}, api.ErrForm}, {api.Value{Kind: api.VInt, Num: "1", Text: "8"}, api.ErrForm}, {api.Value{Kind: api.VInt, Num: "x", Items: numbers(201)}, api.ErrForm},
		{api.Value{Kind: api.VReal, Num: "-1/2"}, api.OK}, {api.Value{Kind: api.VReal, Num: nines + "/1"}, api.OK}, {api.Value{Kind: api.VReal, Num: "4/2"}, api.ErrForm}, {api.Value{Kind: api.VReal, Num: "1"}, api.ErrForm}, {api.Value{Kind: api.VReal, Num: "1/0"}, api.ErrForm},
		{api.Value{Kind: api.VReal, Num: nines + "9/1"}, api.ErrForm}, {api.Value{Kind: api.VReal, Num: "1/1", Text: "x"}, api.ErrForm},
		{api.Value{Kind: api.VBits, Num: "255", Text: "8"}, api.OK}, {api.Value{Kind: api.VBits, Num: "256", Text: "8"}, api.ErrRange}, {api.Value{Kind: api.VBits, Num: "-1", Text: "8"}, api.ErrRange}, {api.Value{Kind: api.VBits, Num: nines, Text: "8"}, api.ErrRange},
		{api.Value{Kind: api.VBits, Num: nines + "9", Text: "8"}, api.ErrForm}, {api.Value{Kind: api.VBits, Num: "18446744073709551615", Text: "64"}, api.OK}, {api.Value{Kind: api.VBits, Num: "18446744073709551616", Text: "64"}, api.ErrRange}, {api.Value{Kind: api.VBits, Num: "0", Text: "65"}, api.ErrForm},
		{api.Value{Kind: api.VBits, Num: "0", Text: "0"}, api.ErrForm}, {api.Value{Kind: api.VBits, Num: "0", Text: "08"}, api.ErrForm}, {api.Value{Kind: api.VBits, Num: "0"}, api.ErrForm}, {api.Value{Kind: api.VBits, Num: "256", Text: "x"}, api.ErrForm}, {api.Value{Kind: api.VBits, Num: "x", Text: "8"}, api.ErrForm},
		{api.Value{Kind: api.VBits, Num: "0", Text: "8", Items: []api.Value{one}}, api.ErrForm},
		{listed(api.VSeq), api.OK}, {listed(api.VSeq, two, one, two), api.OK}, {listed(api.VSeq, numbers(200)...), api.OK}, {listed(api.VSeq, numbers(201)...), api.ErrMany}, {api.Value{Kind: api.VSeq, Num: "1"}, api.ErrForm}, {api.Value{Kind: api.VSeq, Text: "x", Items: numbers(201)}, api.ErrForm},
		{listed(api.VSeq, one, api.Value{Kind: 99}, api.Value{}), api.ErrKind}, {listed(api.VSet, two, one, api.Value{Kind: 99}), api.ErrKind}, {listed(api.VSet, two, one), api.ErrOrder}, {listed(api.VSet, one, one), api.ErrOrder}, {listed(api.VSet, one, two), api.OK},
		{listed(api.VMulti, one, one, two), api.OK}, {listed(api.VMulti, one, two, one), api.ErrOrder}, {listed(api.VMap, one, two), api.OK}, {listed(api.VMap, one), api.ErrForm}, {listed(api.VMap, one, two, two, one), api.OK}, {listed(api.VMap, one, two, one, one), api.ErrOrder},
		{listed(api.VMap, two, one, one, two), api.ErrOrder}, {listed(api.VMap, two, one, two), api.ErrForm}, {listed(api.VSet, numbers(201)...), api.ErrMany}, {listed(api.VMulti, numbers(201)...), api.ErrMany}, {listed(api.VMap, numbers(400)...), api.OK}, {listed(api.VMap, numbers(402)...), api.ErrMany}, {listed(api.VMap, numbers(401)...), api.ErrMany},
		{listed(api.VSeq, listed(api.VSet, two, one), api.Value{Kind: 99}), api.ErrOrder}, {listed(api.VSet, listed(api.VSeq), one), api.ErrOrder}, {listed(api.VSet, one, listed(api.VSeq)), api.OK},
		{cons("Nil"), api.OK}, {cons("nil"), api.OK}, {cons("if"), api.OK}, {cons("M::Nil"), api.OK}, {cons("m::a_1"), api.OK}, {cons(times("x", 24) + "::" + times("y", 24)), api.OK}, {cons(times("x", 25)), api.ErrForm}, {cons("M::" + times("y", 25)), api.ErrForm},
		{cons(""), api.ErrForm}, {cons("1a"), api.ErrForm}, {cons("_a"), api.ErrForm}, {cons("M::1"), api.ErrForm}, {cons("M::"), api.ErrForm}, {cons("::M"), api.ErrForm}, {cons("A::B::C"), api.ErrForm}, {cons("A:B"), api.ErrForm}, {cons("A b"), api.ErrForm}, {cons("A\xc3"), api.ErrForm},
		{api.Value{Kind: api.VCons, Text: "C", Num: "1"}, api.ErrForm}, {api.Value{Kind: api.VCons, Text: "C", Items: numbers(200)}, api.OK}, {api.Value{Kind: api.VCons, Text: "C", Items: numbers(201)}, api.ErrMany}, {api.Value{Kind: api.VCons, Text: "1", Items: []api.Value{{Kind: 99}}}, api.ErrForm},
		{api.Value{Kind: api.VRef, Num: "0"}, api.OK}, {api.Value{Kind: api.VRef, Num: "99999"}, api.OK}, {api.Value{Kind: api.VRef, Num: "100000"}, api.ErrForm}, {api.Value{Kind: api.VRef, Num: "-1"}, api.ErrForm}, {api.Value{Kind: api.VRef, Num: nines}, api.ErrForm}, {api.Value{Kind: api.VRef}, api.ErrForm},
		{nested(59, one), api.OK}, {nested(60, one), api.ErrDeep}, {nested(60, api.Value{Kind: 99}), api.ErrDeep}, {nested(59, api.Value{Kind: 99}), api.ErrKind},
	} {
		if e := Check(c.v); e != c.want {
			t.Errorf("case %d: Check(%.60v): %d, want %d", i, c.v, e, c.want)
		}
	}
}

// TestLargeValues counts values: 1 and 19 times 201 and one more with the rest.
func TestLargeValues(t *testing.T) { // P6.1
	row := listed(api.VSeq, numbers(200)...)
	rows := func(n int, last ...api.Value) api.Value {
		return listed(api.VSeq, append(slices.Repeat([]api.Value{row}, n), last...)...)
	}
	largest := rows(19, listed(api.VSeq, numbers(179)...))
	if n, e := Size(largest); n != api.MaxNodes || e != api.OK {
		t.Errorf("Size: %d, %d", n, e)
	}
	for want, v := range map[api.Errno]api.Value{
		api.ErrLarge: rows(19, listed(api.VSeq, numbers(180)...)), api.ErrKind: rows(19, listed(api.VSeq, append(numbers(178), api.Value{Kind: 99})...)),
	} {
		if e := Check(v); e != want {
			t.Errorf("Check: %d, want %d", e, want)
		}
	}
	// The value that is one too many is not looked at, and what comes before it is.
	if e := Check(rows(19, listed(api.VSeq, append(numbers(179), api.Value{Kind: 99})...))); e != api.ErrLarge {
		t.Errorf("Check: %d", e)
	}
	if e := Check(rows(30, listed(api.VSet, number(2), number(1)))); e != api.ErrLarge {
		t.Errorf("Check: %d", e)
	}
	round := api.Value{Kind: api.VSeq, Items: make([]api.Value, 1)}
	round.Items[0] = round
	if e := Check(round); e != api.ErrDeep {
		t.Errorf("Check of a value in itself: %d", e)
	}
	if _, e := Size(round); e != api.ErrDeep {
		t.Errorf("Size of a value in itself: %d", e)
	}
}

// ordered are values in ascending order.
var ordered = []string{
	"false", "true", "-10", "-9", "0", "9", "10", "-3/2", "-1/1", "1/3", "1/2", "2/1", "0bv1", "1bv1", "0bv2", "3bv2", "0bv10", "9bv10", "10bv10", "[]", "[0]", "[1]", "[[]]", "[0, 0]", "[0, 1]", "[1, 0]", "[0, 0, 0]",
	"{}", "{1}", "{2}", "{1, 2}", "{1, 3}", "multiset{}", "multiset{1}", "multiset{1, 1}", "multiset{1, 2}", "map[]", "map[1 := 1]", "map[1 := 2]", "map[2 := 0]", "map[1 := 1, 2 := 0]", "A()", "A(1)", "A(2)", "A(0, 0)", "A::B()", "A_()", "Aa()", "B()", "a()", "a(1)", "#2", "#10",
}

func TestCompare(t *testing.T) { // P6.1, P6.5
	for i, a := range ordered {
		for j, b := range ordered {
			want := 0
			if i < j {
				want = -1
			} else if i > j {
				want = 1
			}
			if got, e := Compare(of(t, a), of(t, b)); got != want || e != api.OK {
				t.Errorf("Compare(%s, %s): %d, %d, want %d", a, b, got, e, want)
			}
		}
	}
	bad, worse := api.Value{Kind: 99}, api.Value{}
	for _, c := range []struct {
		a, b api.Value
		want api.Errno
	}{{bad, worse, api.ErrKind}, {worse, bad, api.ErrForm}, {number(1), bad, api.ErrKind}} {
		if got, e := Compare(c.a, c.b); got != 0 || e != c.want {
			t.Errorf("Compare: %d, %d, want %d", got, e, c.want)
		}
	}
}

func TestMeasures(t *testing.T) { // P6.1
	for _, c := range []struct {
		s            string
		height, size int
		refs         []int
	}{
		{"1", 0, 1, nil}, {"#7", 0, 1, []int{7}}, {"[]", 0, 1, nil}, {"A()", 1, 1, nil}, {"M::Cons(1, M::Nil())", 2, 3, nil}, {"[A(), B(C(1))]", 2, 5, nil}, {"A([B(), [C(D())]], 1)", 3, 7, nil}, {"{[1], [2, 3]}", 0, 6, nil},
		{"map[A() := 1, B(A()) := C(#3)]", 2, 7, []int{3}}, {"[#3, #1, #3, A(#20), {#1, #2}, map[#0 := #3]]", 1, 12, []int{0, 1, 2, 3, 20}}, {"multiset{5bv8, 5bv8}", 0, 3, nil},
	} {
		v := of(t, c.s)
		if n, e := Height(v); n != c.height || e != api.OK {
			t.Errorf("Height(%s): %d, %d", c.s, n, e)
		}
		if n, e := Size(v); n != c.size || e != api.OK {
			t.Errorf("Size(%s): %d, %d", c.s, n, e)
		}
		if l, e := Refs(v); !slices.Equal(l, c.refs) || e != api.OK {
			t.Errorf("Refs(%s): %v, %d", c.s, l, e)
		}
	}
	bad := listed(api.VSet, number(2), number(1))
	if n, e := Height(bad); n != 0 || e != api.ErrOrder {
		t.Errorf("Height: %d, %d", n, e)
	}
	if n, e := Size(bad); n != 0 || e != api.ErrOrder {
		t.Errorf("Size: %d, %d", n, e)
	}
	if l, e := Refs(bad); len(l) != 0 || e != api.ErrOrder {
		t.Errorf("Refs: %v, %d", l, e)
	}
	if s, e := Text(bad); s != "" || e != api.ErrOrder {
		t.Errorf("Text: %q, %d", s, e)
	}
}

func TestTexts(t *testing.T) { // P6.2, P6.5
	for _, s := range append([]string{"M::Cons(1, M::Nil())", "map[map[] := {[]}, A(multiset{true}) := #99999]", "true()", "map(1)", "multiset()", "false(map())", "true::false()", "-12/7", "if(1)", "[" + times("1, ", 199) + "1]",
		times("[", 60) + times("]", 60), "bv8()", times("9", 120)}, ordered...) {
		v, at, e := ParseText(s)
		if e != api.OK || at != 0 || text(v) != s {
			t.Errorf("ParseText(%.80q): %d, %d, %.80q", s, at, e, text(v))
		}
	}
	if n := len(text(of(t, "M::Cons(1, M::Nil())"))); n != 20 {
		t.Errorf("%d bytes", n)
	}
	for s, want := range map[string]api.Errno{
		"{2, 1}": api.ErrOrder, "{1, 1}": api.ErrOrder, "multiset{2, 1}": api.ErrOrder, "map[1 := 1, 1 := 2]": api.ErrOrder, "01": api.ErrForm, "-0": api.ErrForm, "4/2": api.ErrForm, "1/0": api.ErrForm, "-01/2": api.ErrForm, "5bv65": api.ErrForm, "5bv0": api.ErrForm,
		"05bv8": api.ErrForm, "5bv08": api.ErrForm, "9bv2": api.ErrRange, "#01": api.ErrForm, "#100000": api.ErrForm, times("9", 121): api.ErrForm, times("x", 25) + "()": api.ErrForm, "A::1()": api.ErrForm, "A::_()": api.ErrForm, "[" + times("1, ", 200) + "1]": api.ErrMany,
		"[{2, 1}, 01]": api.ErrOrder, times("[", 61) + times("]", 61): api.ErrDeep, times("[", 120) + times("]", 120): api.ErrDeep, "[" + times("["+times("1, ", 99)+"1], ", 40) + "1]": api.ErrLarge,
	} {
		if v, at, e := ParseText(s); e != want || at != 0 || v.Kind != 0 || v.Num != "" || len(v.Items) > 0 {
			t.Errorf("ParseText(%.80q): %v, %d, %d, want %d", s, v.Kind, at, e, want)
		}
	}
}

func TestTextErrors(t *testing.T) { // P6.2
	for s, want := range map[string]int{
		"": 0, " 1": 0, "1 ": 1, "-": 1, "--1": 1, "+1": 0, "1x": 1, "1/": 2, "1/-2": 2, "1/2/3": 3, "1/2bv8": 3, "-1bv8": 2, "1b": 2, "1b8": 2, "1bv": 3, "1bvx": 3, "1bv8x": 4, "1.5": 1, "#": 1, "#-1": 1, "#1x": 2,
		"[": 1, "[1": 2, "[1, 2": 5, "[1,2]": 3, "[1 , 2]": 2, "[1, ]": 4, "[,": 1, "[ 1]": 1, "[1  ]": 2, "[1]]": 3, "{": 1, "{1]": 2, "{1, 2)": 5, "multiset": 8, "multiset[": 8, "multiset{1": 10, "multise{": 7, "map": 3, "map{": 3, "map[1]": 5, "map[1 :=2]": 8,
		"map[1:= 2]": 5, "map[1 = 2]": 6, "map[1 := 2": 10, "map[1 := 2, 3]": 13, "mapx[": 4, "t": 1, "tru": 3, "true ": 4, "truex": 5, "true,": 4, "True": 4, "fals(": 5, "A": 1, "A:": 2, "A:B": 2, "A::": 3, "A::(": 3, "A::B": 4, "A::B::C()": 4, "A(": 2, "A(1": 3,
		"A(1,2)": 4, "A()x": 3, "A ()": 1, "_()": 0, "A-()": 1, "true::": 6, "map::[": 5, "\xff": 0, "A\xff": 1, "[1, \xc3\xa9": 4, "[true := 1]": 5, times("[", 120): 120, times("[", 121): 120, times("[", 120) + "x": 120, times("A(", 120) + "1": 240, times("map[1 := ", 120) + "1": 120*9 - 5,
	} {
		if v, at, e := ParseText(s); e != api.ErrSyntax || at != want || v.Kind != 0 || v.Num != "" {
			t.Errorf("ParseText(%.80q): %d, %d, want %d", s, at, e, want)
		}
	}
	if _, at, e := ParseText(times(" ", api.MaxText+1)); at != 0 || e != api.ErrLong {
		t.Errorf("ParseText of a long text: %d, %d", at, e)
	}
	if _, at, e := ParseText(times("1", api.MaxText)); at != 0 || e != api.ErrForm {
		t.Errorf("ParseText of a text of the greatest length: %d, %d", at, e)
	}
}

// maker makes random values.
type maker struct{ *rand.Rand }

func (m maker) value(depth int) api.Value {
	switch kind := m.Intn(api.Kinds); {
	case kind == api.VBool:
		return truthOf(m.Intn(2) == 0)
	case kind == api.VInt:
		return number(m.Intn(9) - 4)
	case kind == api.VReal:
		n, _ := num.Real(strconv.Itoa(m.Intn(9)-4), strconv.Itoa(1+m.Intn(3)))
		return api.Value{Kind: api.VReal, Num: n}
	case kind == api.VBits:
		return api.Value{Kind: api.VBits, Num: strconv.Itoa(m.Intn(4)), Text: strconv.Itoa(2 + m.Intn(2))}
	case kind == api.VRef || depth == 0:
		return api.Value{Kind: api.VRef, Num: strconv.Itoa(m.Intn(3))}
	case kind == api.VCons:
		return api.Value{Kind: kind, Text: []string{"A", "B", "M::A"}[m.Intn(3)], Items: m.values(3, depth-1)}
	default:
		v, e := Apply([]int{api.ESeq, api.ESet, api.EMulti, api.EMap}[kind-api.VSeq], m.values(2, depth-1))
		if e != api.OK {
			return listed(kind)
		}
		return v
	}
}

func (m maker) values(n, depth int) []api.Value {
	var l []api.Value
	for range m.Intn(n + 1) {
		l = append(l, m.value(depth))
	}
	return l
}

func TestRandomValues(t *testing.T) { // P6.5
	m := maker{rand.New(rand.NewSource(1))}
	var l []api.Value
	for range 60 {
		l = append(l, m.value(3))
	}
	sign := func(a, b api.Value) int {
		n, e := Compare(a, b)
		if e != api.OK {
			t.Fatalf("Compare(%s, %s): %d", text(a), text(b), e)
		}
		return n
	}
	for _, a := range l {
		if back := of(t, text(a)); sign(a, back) != 0 || text(back) != text(a) {
			t.Errorf("%s comes back as %s", text(a), text(back))
		}
		for _, b := range l {
			if sign(a, b) != -sign(b, a) || (sign(a, b) == 0) != (text(a) == text(b)) {
				t.Errorf("%s and %s", text(a), text(b))
			}
			for _, c := range l {
				if sign(a, b) <= 0 && sign(b, c) <= 0 && sign(a, c) > 0 {
					t.Errorf("%s, %s and %s", text(a), text(b), text(c))
				}
			}
		}
	}
}

func flat(t *testing.T, s string) api.Tree {
	t.Helper()
	p, at, e := parse.Program(s)
	if e != api.OK {
		t.Fatalf("Program: %d at %d", e, at)
	}
	return p
}
