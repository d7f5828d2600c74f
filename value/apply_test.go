package value

import (
	"math/rand"
	"slices"
	"strconv"
	"strings"
	"testing"

	"entail/api"
)

var ops = map[string]int{"!": api.ENot, "neg": api.ENeg, "+": api.EAdd, "-": api.ESub, "*": api.EMul, "/": api.EDiv, "%": api.EMod, "&&": api.EAnd, "||": api.EOr, "==>": api.EImp, "<==>": api.EIff, "==": api.EEq, "!=": api.ENe,
	"<": api.ELt, "<=": api.ELe, "in": api.EIn, "&": api.EBitAnd, "|": api.EBitOr, "^": api.EBitXor, "<<": api.EShl, ">>": api.EShr, "index": api.EIndex, "slice": api.ESlice, "update": api.EUpdate, "#": api.ECard,
	"seq": api.ESeq, "set": api.ESet, "multiset": api.EMulti, "map": api.EMap}

// apply applies an operation to values that are written with semicolons between them.
func apply(t *testing.T, op, args string) (api.Value, api.Errno) {
	t.Helper()
	var l []api.Value
	for _, s := range strings.FieldsFunc(args, func(c rune) bool { return c == ';' }) {
		l = append(l, of(t, strings.TrimSpace(s)))
	}
	return Apply(ops[op], l)
}

func TestApply(t *testing.T) { // P6.3
	nines := times("9", 120)
	for _, c := range [][3]string{
		{"!", "true", "false"}, {"!", "false", "true"}, {"&&", "true; true", "true"}, {"&&", "true; false", "false"}, {"&&", "false; true", "false"}, {"||", "false; false", "false"}, {"||", "false; true", "true"}, {"||", "true; false", "true"},
		{"==>", "true; false", "false"}, {"==>", "true; true", "true"}, {"==>", "false; false", "true"}, {"==>", "false; true", "true"}, {"<==>", "true; false", "false"}, {"<==>", "false; false", "true"}, {"<==>", "true; true", "true"},
		{"neg", "5", "-5"}, {"neg", "0", "0"}, {"neg", "-1/2", "1/2"}, {"neg", "1bv8", "255bv8"}, {"neg", "0bv8", "0bv8"}, {"neg", nines, "-" + nines},
		{"+", "2; 3", "5"}, {"+", "1/2; 1/3", "5/6"}, {"+", "200bv8; 100bv8", "44bv8"}, {"-", "2; 3", "-1"}, {"-", "1/2; 1/2", "0/1"}, {"-", "1bv4; 2bv4", "15bv4"}, {"*", "-4; 3", "-12"}, {"*", "2/3; 3/2", "1/1"}, {"*", "100bv8; 3bv8", "44bv8"},
		{"/", "-7; 2", "-4"}, {"%", "-7; 2", "1"}, {"/", "7; -2", "-3"}, {"%", "7; -2", "1"}, {"/", "1/2; 1/4", "2/1"}, {"/", "200bv8; 7bv8", "28bv8"}, {"%", "200bv8; 7bv8", "4bv8"},
		{"==", "1; 1/1", "false"}, {"==", "[1]; [1]", "true"}, {"!=", "{1}; {1}", "false"}, {"!=", "5bv8; 5bv9", "true"}, {"==", "A(1); A(1)", "true"},
		{"<", "2; 10", "true"}, {"<", "2; 2", "false"}, {"<=", "2; 2", "true"}, {"<=", "3; 2", "false"}, {"<", "1/3; 1/2", "true"}, {"<=", "-1/2; -2/3", "false"}, {"<", "9bv8; 10bv8", "true"}, {"<=", "10bv8; 9bv8", "false"},
		{"<", "[1, 2]; [1, 2, 3]", "true"}, {"<=", "[1]; [1]", "true"}, {"<", "[1]; [1]", "false"}, {"<=", "[2]; [1, 2]", "false"}, {"<=", "[1, 2]; [1]", "false"}, {"<=", "[]; [[]]", "true"},
		{"<", "{1}; {1, 2}", "true"}, {"<=", "{1, 3}; {1, 2}", "false"}, {"<=", "{3}; {1, 2}", "false"}, {"<", "{1}; {1}", "false"}, {"<=", "{}; {}", "true"}, {"<=", "multiset{1, 1}; multiset{1, 2, 3}", "false"}, {"<=", "multiset{1, 3}; multiset{1, 2, 3}", "true"}, {"<", "multiset{1}; multiset{1, 1}", "true"}, {"<", "multiset{1}; multiset{1}", "false"},
		{"in", "1; [2, 1]", "true"}, {"in", "1; []", "false"}, {"in", "1/1; [1]", "false"}, {"in", "3; {1, 3}", "true"}, {"in", "{}; {{}}", "true"}, {"in", "2; multiset{1, 1}", "false"}, {"in", "1; multiset{1}", "true"}, {"in", "1; map[1 := 2]", "true"}, {"in", "2; map[1 := 2]", "false"},
		{"&", "12bv8; 10bv8", "8bv8"}, {"|", "12bv8; 10bv8", "14bv8"}, {"^", "12bv8; 10bv8", "6bv8"}, {"<<", "1bv8; 7", "128bv8"}, {"<<", "1bv8; 8", "0bv8"}, {"<<", "3bv8; " + nines, "0bv8"}, {">>", "200bv8; 3", "25bv8"}, {">>", "200bv8; 3bv2", "25bv8"},
		{"<<", "1bv8; 200bv8", "0bv8"}, {"<<", "1bv1; 0bv64", "1bv1"}, {"<<", "1bv1; 1", "0bv1"}, {"<<", "1bv64; 63", "9223372036854775808bv64"}, {">>", "1bv64; 18446744073709551615bv64", "0bv64"},
		{"+", "[1, 2]; [2]", "[1, 2, 2]"}, {"+", "{1, 3}; {2, 3}", "{1, 2, 3}"}, {"+", "multiset{1, 1}; multiset{1, 2}", "multiset{1, 1, 1, 2}"}, {"+", "map[1 := true]; map[1 := false, 2 := true]", "map[1 := false, 2 := true]"}, {"+", "map[2 := 1]; map[1 := 3]", "map[1 := 3, 2 := 1]"},
		{"-", "{1, 2, 3}; {2, 4}", "{1, 3}"}, {"-", "multiset{1, 1}; multiset{1, 2}", "multiset{1}"}, {"-", "multiset{1, 1, 1, 2}; multiset{1, 2, 2}", "multiset{1, 1}"}, {"-", "map[1 := 2, 3 := 4]; {1, 5}", "map[3 := 4]"}, {"-", "map[]; {}", "map[]"},
		{"*", "{1, 2, 3}; {2, 3, 4}", "{2, 3}"}, {"*", "multiset{1, 1, 2}; multiset{1, 1, 1, 3}", "multiset{1, 1}"}, {"*", "{}; {1}", "{}"},
		{"index", "[4, 5]; 1", "5"}, {"index", "map[1 := 2, 3 := 4]; 3", "4"}, {"index", "map[2 := [1]]; 2", "[1]"}, {"index", "multiset{1, 1, 2}; 1", "2"}, {"index", "multiset{1}; true", "0"}, {"slice", "[1, 2, 3]; 1; 2", "[2]"}, {"slice", "[1]; 0; 1", "[1]"}, {"slice", "[1]; 1; 1", "[]"}, {"slice", "[]; 0; 0", "[]"},
		{"update", "[1, 2]; 0; 5", "[5, 2]"}, {"update", "map[1 := 2]; 1; 3", "map[1 := 3]"}, {"update", "map[1 := 2]; 0; 3", "map[0 := 3, 1 := 2]"}, {"update", "multiset{1}; 2; 2", "multiset{1, 2, 2}"}, {"update", "multiset{1, 1, 2}; 1; 0", "multiset{2}"}, {"update", "multiset{1}; 0; 1", "multiset{0, 1}"},
		{"#", "[1, 1]", "2"}, {"#", "{}", "0"}, {"#", "multiset{1, 1}", "2"}, {"#", "map[1 := 2, 2 := 3]", "2"},
		{"seq", "", "[]"}, {"seq", "2; 1; 2", "[2, 1, 2]"}, {"set", "2; 1; 2", "{1, 2}"}, {"set", "", "{}"}, {"multiset", "2; 1; 2", "multiset{1, 2, 2}"}, {"map", "1; 2; 0; 3; 1; 4", "map[0 := 3, 1 := 4]"}, {"map", "", "map[]"},
	} {
		if v, e := apply(t, c[0], c[1]); e != api.OK || text(v) != c[2] {
			t.Errorf("%s of %.80s: %.80s, %d, want %s", c[0], c[1], text(v), e, c[2])
		}
	}
}

func TestApplyErrors(t *testing.T) { // P6.3
	nines := times("9", 120)
	for _, c := range []struct {
		op, args string
		want     api.Errno
	}{
		{"+", "1", api.ErrArgs}, {"+", "1; 2; 3", api.ErrArgs}, {"!", "", api.ErrArgs}, {"!", "true; true", api.ErrArgs}, {"neg", "1; 2", api.ErrArgs}, {"#", "", api.ErrArgs}, {"slice", "[]; 0", api.ErrArgs}, {"update", "[1]; 0", api.ErrArgs}, {"map", "1", api.ErrArgs}, {"map", "1; 2; 3", api.ErrArgs}, {"==", "1", api.ErrArgs},
		{"!", "1", api.ErrKind}, {"neg", "true", api.ErrKind}, {"neg", "[]", api.ErrKind}, {"&&", "true; 1", api.ErrKind}, {"&&", "1; true", api.ErrKind}, {"<==>", "1; 1", api.ErrKind}, {"+", "1; 1/1", api.ErrKind}, {"+", "1/1; 1", api.ErrKind}, {"+", "1bv8; 1bv4", api.ErrKind}, {"+", "1bv8; 1", api.ErrKind},
		{"+", "true; true", api.ErrKind}, {"+", "{1}; [1]", api.ErrKind}, {"+", "A(); A()", api.ErrKind}, {"-", "[1]; [1]", api.ErrKind}, {"-", "map[]; map[]", api.ErrKind}, {"-", "{1}; map[]", api.ErrKind}, {"-", "map[]; multiset{}", api.ErrKind}, {"*", "[1]; [1]", api.ErrKind}, {"*", "map[]; map[]", api.ErrKind},
		{"%", "1/2; 1/2", api.ErrKind}, {"%", "1bv8; 0bv9", api.ErrKind}, {"/", "1; 0/1", api.ErrKind}, {"<", "1; 1/1", api.ErrKind}, {"<", "1bv8; 1bv9", api.ErrKind}, {"<", "true; true", api.ErrKind}, {"<", "map[]; map[]", api.ErrKind}, {"<=", "{}; multiset{}", api.ErrKind}, {"<=", "#1; #2", api.ErrKind}, {"<=", "A(); B()", api.ErrKind},
		{"in", "1; 1", api.ErrKind}, {"in", "1; A(1)", api.ErrKind}, {"&", "1; 1", api.ErrKind}, {"|", "1bv8; 1bv7", api.ErrKind}, {"^", "true; true", api.ErrKind}, {"<<", "1; 1", api.ErrKind}, {"<<", "1bv8; 1/1", api.ErrKind}, {">>", "1; 1bv8", api.ErrKind},
		{"index", "{1}; 1", api.ErrKind}, {"index", "[1]; true", api.ErrKind}, {"index", "#1; 0", api.ErrKind}, {"index", "A(1); 0", api.ErrKind}, {"slice", "[1]; 0; 1/1", api.ErrKind}, {"slice", "{1}; 0; 1", api.ErrKind}, {"slice", "[1]; true; 1", api.ErrKind}, {"update", "[1]; true; 1", api.ErrKind}, {"update", "{1}; 0; 1", api.ErrKind}, {"update", "multiset{1}; 1; true", api.ErrKind},
		{"#", "1", api.ErrKind}, {"#", "A(1)", api.ErrKind}, {"#", "#1", api.ErrKind},
		{"/", "1; 0", api.ErrDivide}, {"%", "1; 0", api.ErrDivide}, {"/", "1/2; 0/1", api.ErrDivide}, {"/", "1bv8; 0bv8", api.ErrDivide}, {"%", "1bv8; 0bv8", api.ErrDivide},
		{"index", "[1]; 1", api.ErrIndex}, {"index", "[1]; -1", api.ErrIndex}, {"index", "[]; 0", api.ErrIndex}, {"index", "[1]; " + nines, api.ErrIndex}, {"index", "map[1 := 2]; 2", api.ErrKey}, {"index", "map[]; 0", api.ErrKey}, {"update", "[1]; 1; 2", api.ErrIndex}, {"update", "[1]; -1; 2", api.ErrIndex}, {"update", "[]; 0; 2", api.ErrIndex},
		{"slice", "[1]; 1; 0", api.ErrIndex}, {"slice", "[1]; 0; 2", api.ErrIndex}, {"slice", "[1]; -1; 1", api.ErrIndex}, {"slice", "[1]; 2; 2", api.ErrIndex}, {"slice", "[1]; 0; " + nines, api.ErrIndex}, {"slice", "[1]; -" + nines + "; 0", api.ErrIndex},
		{"<<", "1bv8; -1", api.ErrRange}, {">>", "1bv8; -" + nines, api.ErrRange}, {"update", "multiset{}; 1; -1", api.ErrRange}, {"update", "multiset{}; 1; -" + nines, api.ErrRange}, {"update", "multiset{}; 1; 201", api.ErrMany}, {"update", "multiset{2}; 1; 200", api.ErrMany}, {"update", "multiset{}; 1; " + nines, api.ErrMany},
		{"+", nines + "; 1", api.ErrLarge}, {"-", "-" + nines + "; 1", api.ErrLarge}, {"*", nines + "; 2", api.ErrLarge}, {"+", "1/" + nines + "; 1/17", api.ErrLarge}, {"/", "1/" + nines + "; " + nines + "/1", api.ErrLarge},
	} {
		if v, e := apply(t, c.op, c.args); e != c.want || v.Num != "" || len(v.Items) > 0 || v.Kind != 0 {
			t.Errorf("%s of %.80s: %.80s, %d, want %d", c.op, c.args, text(v), e, c.want)
		}
	}
	for op := range api.Ops + 20 {
		op -= 10
		known := false
		for _, other := range ops {
			known = known || other == op
		}
		if _, e := Apply(op, nil); !known && e != api.ErrKind || known && e == api.ErrKind {
			t.Errorf("Apply(%d): %d", op, e)
		}
		if _, e := Apply(op, numbers(401)); !known && e != api.ErrKind || known && e != api.ErrMany {
			t.Errorf("Apply(%d) of 401 values: %d", op, e)
		}
		if _, e := Apply(op, []api.Value{number(1), {Kind: 99}, {}}); e != api.ErrKind {
			t.Errorf("Apply(%d) of no values: %d", op, e)
		}
		if _, e := Apply(op, append(numbers(401), api.Value{})); e != api.ErrForm {
			t.Errorf("Apply(%d) of too many and no values: %d", op, e)
		}
	}
}

func TestApplySizes(t *testing.T) { // P6.3
	seq := func(n int) api.Value { return listed(api.VSeq, numbers(n)...) }
	set := func(from, to int) api.Value { return listed(api.VSet, numbers(to)[from:]...) }
	multi := func(n int) api.Value { return listed(api.VMulti, numbers(n)...) }
	entries := func(from, to int) api.Value {
		v := listed(api.VMap)
		for i := from; i < to; i++ {
			v.Items = append(v.Items, number(i), number(0))
		}
		return v
	}
	rows := listed(api.VSeq, slices.Repeat([]api.Value{seq(100)}, 30)...)
	for i, c := range []struct {
		op   int
		l    []api.Value
		want api.Errno
	}{
		{api.EAdd, []api.Value{seq(100), seq(100)}, api.OK}, {api.EAdd, []api.Value{seq(101), seq(100)}, api.ErrMany}, {api.EAdd, []api.Value{set(0, 150), set(50, 200)}, api.OK}, {api.EAdd, []api.Value{set(0, 150), set(50, 201)}, api.ErrMany},
		{api.EAdd, []api.Value{multi(100), multi(100)}, api.OK}, {api.EAdd, []api.Value{multi(101), multi(100)}, api.ErrMany}, {api.EAdd, []api.Value{entries(0, 150), entries(50, 200)}, api.OK}, {api.EAdd, []api.Value{entries(0, 150), entries(50, 201)}, api.ErrMany},
		{api.EUpdate, []api.Value{entries(0, 200), number(0), number(1)}, api.OK}, {api.EUpdate, []api.Value{entries(0, 200), number(200), number(1)}, api.ErrMany}, {api.EUpdate, []api.Value{multi(10), number(3), number(191)}, api.OK}, {api.EUpdate, []api.Value{multi(10), number(3), number(192)}, api.ErrMany},
		{api.ESeq, numbers(200), api.OK}, {api.ESeq, numbers(201), api.ErrMany}, {api.ESet, numbers(201), api.ErrMany}, {api.ESet, slices.Repeat(numbers(100), 4), api.OK}, {api.EMulti, slices.Repeat(numbers(100), 3), api.ErrMany}, {api.EMap, numbers(400), api.OK},
		{api.ESeq, []api.Value{nested(58, number(1))}, api.OK}, {api.ESeq, []api.Value{nested(59, number(1))}, api.ErrDeep}, {api.EUpdate, []api.Value{seq(1), number(0), nested(59, number(1))}, api.ErrDeep}, {api.ESeq, []api.Value{rows, rows}, api.ErrLarge}, {api.EAdd, []api.Value{rows, rows}, api.ErrLarge},
		{api.EAdd, []api.Value{listed(api.VSeq, slices.Repeat([]api.Value{seq(18)}, 200)...), listed(api.VSeq, slices.Repeat([]api.Value{seq(18)}, 200)...)}, api.ErrMany},
	} {
		if v, e := Apply(c.op, c.l); e != c.want || e != api.OK && len(v.Items) > 0 {
			t.Errorf("case %d: %d items, %d, want %d", i, len(v.Items), e, c.want)
		}
	}
}

// TestOwnMemory changes a result: neither the arguments nor the rest of the result change.
func TestOwnMemory(t *testing.T) { // P6.3
	inner := listed(api.VSeq, number(1))
	l := []api.Value{inner, inner}
	v, _ := Apply(api.ESeq, l)
	v.Items[0].Items[0] = number(7)
	if text(v) != "[[7], [1]]" || text(inner) != "[1]" {
		t.Errorf("%s and %s", text(v), text(inner))
	}
	w, _ := Apply(api.EIndex, []api.Value{listed(api.VSeq, inner), number(0)})
	w.Items[0] = number(8)
	if text(inner) != "[1]" {
		t.Errorf("%s", text(inner))
	}
}

// collection makes a set or a multiset of small numbers.
func (m maker) collection(op int) api.Value {
	var l []api.Value
	for range m.Intn(6) {
		l = append(l, number(m.Intn(5)))
	}
	v, _ := Apply(op, l)
	return v
}

func TestLaws(t *testing.T) { // P6.5
	m := maker{rand.New(rand.NewSource(2))}
	do := func(op int, l ...api.Value) api.Value {
		v, e := Apply(op, l)
		if e != api.OK || Check(v) != api.OK {
			t.Fatalf("Apply(%d, %v): %d", op, l, e)
		}
		return v
	}
	same := func(law string, a, b api.Value) {
		if text(a) != text(b) {
			t.Errorf("%s: %s and %s", law, text(a), text(b))
		}
	}
	for range 300 {
		for _, op := range []int{api.ESet, api.EMulti} {
			a, b, c := m.collection(op), m.collection(op), m.collection(op)
			same("a + b = b + a", do(api.EAdd, a, b), do(api.EAdd, b, a))
			same("a * b = b * a", do(api.EMul, a, b), do(api.EMul, b, a))
			same("associative", do(api.EAdd, a, do(api.EAdd, b, c)), do(api.EAdd, do(api.EAdd, a, b), c))
			same("a * (b * c)", do(api.EMul, a, do(api.EMul, b, c)), do(api.EMul, do(api.EMul, a, b), c))
			same("a - b - c", do(api.ESub, do(api.ESub, a, b), c), do(api.ESub, a, do(api.EAdd, b, c)))
			same("a - (a - b)", do(api.ESub, a, do(api.ESub, a, b)), do(api.EMul, a, b))
			same("(a - b) + (a * b)", do(api.EAdd, do(api.ESub, a, b), do(api.EMul, a, b)), a)
			same("parts", do(api.ELe, a, b), truthOf(text(do(api.EMul, a, b)) == text(a)))
			same("proper parts", do(api.ELt, a, b), truthOf(isTrue(do(api.ELe, a, b)) && text(a) != text(b)))
			for i := range 5 {
				x := number(i)
				count := func(v api.Value) int {
					n := 0
					for _, item := range v.Items {
						if item.Num == x.Num {
							n++
						}
					}
					return n
				}
				union := max(count(a), count(b))
				if op == api.EMulti {
					union = count(a) + count(b)
					same("multiplicity", do(api.EIndex, a, x), number(count(a)))
				}
				if count(do(api.EAdd, a, b)) != union || count(do(api.EMul, a, b)) != min(count(a), count(b)) || count(do(api.ESub, a, b)) != max(count(a)-count(b), 0) {
					t.Errorf("%s and %s", text(a), text(b))
				}
				same("in", do(api.EIn, x, a), truthOf(count(a) > 0))
			}
		}
		s := listed(api.VSeq, m.values(6, 1)...)
		for cut := range len(s.Items) + 1 {
			left, right := do(api.ESlice, s, number(0), number(cut)), do(api.ESlice, s, number(cut), number(len(s.Items)))
			same("cut", do(api.EAdd, left, right), s)
			same("prefix", do(api.ELe, left, s), truthOf(true))
		}
		entries := m.values(9, 1)
		if len(entries)%2 == 0 {
			v, k := do(api.EMap, entries...), m.value(1)
			same("entry", do(api.EIndex, do(api.EUpdate, v, k, s), k), s)
			for i := range len(entries) / 2 {
				if !isTrue(do(api.EEq, k, entries[2*i])) {
					same("other entry", do(api.EIndex, do(api.EUpdate, v, k, s), entries[2*i]), do(api.EIndex, v, entries[2*i]))
				}
			}
		}
	}
}

func TestConvert(t *testing.T) { // P6.3
	nines := times("9", 120)
	for _, c := range [][3]string{
		{"3", "int", "3"}, {"3", "real", "3/1"}, {"-" + nines, "real", "-" + nines + "/1"}, {"5", "bv8", "5bv8"}, {"255", "bv8", "255bv8"}, {"0", "bv1", "0bv1"}, {"4/1", "int", "4"}, {"-4/1", "int", "-4"}, {"1/2", "real", "1/2"}, {"2/1", "bv8", "2bv8"},
		{"255bv8", "int", "255"}, {"2bv8", "real", "2/1"}, {"2bv8", "bv2", "2bv2"}, {"2bv8", "bv8", "2bv8"}, {"255bv8", "bv64", "255bv64"}, {"true", "bool", "true"}, {"18446744073709551615", "bv64", "18446744073709551615bv64"},
	} {
		if v, e := Convert(of(t, c[0]), c[1]); e != api.OK || text(v) != c[2] {
			t.Errorf("Convert(%s, %s): %s, %d", c[0], c[1], text(v), e)
		}
	}
	for _, c := range []struct {
		v, typ string
		want   api.Errno
	}{
		{"1/2", "int", api.ErrRange}, {"256", "bv8", api.ErrRange}, {"300", "bv8", api.ErrRange}, {"-1", "bv8", api.ErrRange}, {"4bv8", "bv2", api.ErrRange}, {"1/2", "bv8", api.ErrRange}, {"256/1", "bv8", api.ErrRange}, {"-1/1", "bv64", api.ErrRange}, {nines, "bv64", api.ErrRange},
		{"1", "bool", api.ErrType}, {"1", "bv0", api.ErrType}, {"1", "bv65", api.ErrType}, {"1", "bv08", api.ErrType}, {"1", "Nat", api.ErrType}, {"1", "", api.ErrType}, {"1", "seq<int>", api.ErrType}, {"[1]", "seq<int>", api.ErrType}, {"[]", "bool", api.ErrType}, {"A()", "A", api.ErrType}, {"1", " int", api.ErrType}, {"1", times("x", 500), api.ErrType},
		{"true", "int", api.ErrKind}, {"true", "bv1", api.ErrKind}, {"[1]", "int", api.ErrKind}, {"A()", "real", api.ErrKind}, {"#1", "int", api.ErrKind}, {"{}", "bv8", api.ErrKind},
	} {
		if v, e := Convert(of(t, c.v), c.typ); e != c.want || v.Num != "" || v.Kind != 0 {
			t.Errorf("Convert(%.20s, %.20s): %s, %d, want %d", c.v, c.typ, text(v), e, c.want)
		}
	}
	if _, e := Convert(api.Value{Kind: 99}, "nothing"); e != api.ErrKind {
		t.Errorf("Convert of no value: %d", e)
	}
	if _, e := Convert(api.Value{Kind: api.VReal, Num: "4/2"}, "int"); e != api.ErrForm {
		t.Errorf("Convert of 4/2: %d", e)
	}
}

func TestTypeOfNumbers(t *testing.T) { // P6.5
	for i := range 16 {
		v := api.Value{Kind: api.VBits, Num: strconv.Itoa(i), Text: "4"}
		whole, _ := Convert(v, "int")
		part, _ := Convert(whole, "real")
		back, e := Convert(part, "bv4")
		if e != api.OK || text(back) != text(v) {
			t.Errorf("%s comes back as %s", text(v), text(back))
		}
	}
}
