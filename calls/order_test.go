package calls

import (
	"math/rand"
	"slices"
	"strings"
	"testing"

	"entail/api"
	"entail/value"
)

// val returns the value of a string.
func val(t *testing.T, s string) api.Value {
	t.Helper()
	v, at, e := value.ParseText(s)
	if e != api.OK {
		t.Fatalf("%s: %d at %d", s, e, at)
	}
	return v
}

// vals returns the values of strings that are separated by semicolons.
func vals(t *testing.T, s string) []api.Value {
	t.Helper()
	var l []api.Value
	for _, one := range strings.Split(s, ";") {
		if one != "" {
			l = append(l, val(t, one))
		}
	}
	return l
}

func nines(n int) string { return strings.Repeat("9", n) }

func TestLess(t *testing.T) { // P11.3
	for _, c := range []struct {
		below, above string
		is           bool
	}{
		{"3", "4", true}, {"4", "3", false}, {"4", "4", false}, {"-5", "0", true}, {"-5", "-1", false}, {"-5", "1", true}, {"-1", "-5", false}, {"0", "0", false}, {"0", "-1", false}, {"9", "10", true}, {"-" + nines(120), nines(120), true}, {nines(119), nines(120), true},
		{"1/2", "1/1", false}, {"0/1", "1/1", true}, {"1/2", "3/2", true}, {"1/2", "5/4", false}, {"1/3", "4/3", true}, {"-1/2", "1/2", true}, {"-1/2", "0/1", false}, {"-1/1", "0/1", true}, {"-5/1", "-1/1", false}, {"-5/1", "-1/2", false}, {"5/2", "5/2", false}, {"0/1", nines(120) + "/1", true},
		{"-5/1", "1/" + nines(120), true}, {"-" + nines(120) + "/1", "1/" + nines(120), true}, {"0/1", nines(120) + "/2", true},
		// A number that cannot be 1 less, because that has too many digits.
		{"-" + nines(120) + "/1", "-" + nines(120) + "/2", false}, {"-" + nines(120) + "/1", "-" + nines(120) + "/1", false},
		{"1bv8", "2bv8", true}, {"2bv8", "1bv8", false}, {"2bv8", "2bv8", false}, {"0bv8", "255bv8", true}, {"1bv8", "2bv9", false}, {"9bv8", "10bv8", true}, {"false", "true", true}, {"true", "false", false}, {"true", "true", false}, {"false", "false", false},
		{"[]", "[1]", true}, {"[1]", "[]", false}, {"[2]", "[1]", false}, {"[9]", "[1, 1]", true}, {"{}", "{1}", true}, {"{1}", "{2}", false}, {"{9}", "{1, 2}", true}, {"multiset{1}", "multiset{1, 1}", true}, {"multiset{1, 1}", "multiset{1}", false}, {"map[]", "map[1 := 2]", true}, {"map[1 := 2]", "map[3 := 4]", false},
		{"map[9 := 2]", "map[3 := 4, 5 := 6]", true}, {"map[1 := 2]", "map[]", false}, {"[]", "{1}", false}, {"{}", "multiset{1}", false}, {"[[]]", "[[], []]", true},
		{"A()", "B(A())", true}, {"B(A())", "A()", false}, {"A()", "B()", false}, {"B(1, 2, 3)", "A(A())", true}, {"A([B()])", "A(B(C()))", true}, {"A(B(), C(), D())", "A(B(C()))", true}, {"A({B()})", "A(B())", false},
		{"#1", "#2", false}, {"#2", "#1", false}, {"1", "5/1", false}, {"0/1", "5", false}, {"1", "5bv8", false}, {"false", "1", false}, {"0", "true", false}, {"1", "#5", false}, {"[]", "A(B())", false},
	} {
		is, e := Less(val(t, c.below), val(t, c.above))
		if is != c.is || e != api.OK {
			t.Errorf("Less of %s and %s: %v, %d", c.below, c.above, is, e)
		}
	}
	bad, worse := api.Value{Kind: api.VInt, Num: "01"}, api.Value{Kind: 77}
	one := val(t, "1")
	for _, c := range []struct {
		a, b api.Value
		want api.Errno
	}{{bad, worse, api.ErrForm}, {worse, bad, api.ErrKind}, {one, bad, api.ErrForm}, {bad, one, api.ErrForm}, {one, worse, api.ErrKind}} {
		if is, e := Less(c.a, c.b); is || e != c.want {
			t.Errorf("Less: %v, %d, want %d", is, e, c.want)
		}
	}
}

func TestBelow(t *testing.T) { // P11.3
	for _, c := range []struct {
		a, b string
		is   bool
	}{
		{"2;9", "3;0", true}, {"3;1", "3;2", true}, {"3;2", "3", true}, {"3", "3;2", false}, {"3;2", "3;2", false}, {"", "", false}, {"1", "", true}, {"", "1", false}, {"4;1", "3;2", false}, {"3;2;7", "3;2;7;1", false}, {"3;2;7;1", "3;2;7", true}, {"2", "3;5", true}, {"4;0;0", "3", false},
		// The first difference decides, also where neither value is below the other one.
		{"true;1", "false;2", false}, {"#1;1", "#2;2", false}, {"1;1", "1/1;2", false}, {"-3;1", "-2;2", false}, {"-3;1", "-3;2", true}, {"[1];1", "[2];2", false}, {"[1];1", "[1];2", true}, {"A();0", "B();1", false}, {"#1;0", "#1;1", true},
	} {
		is, e := Below(vals(t, c.a), vals(t, c.b))
		if is != c.is || e != api.OK {
			t.Errorf("Below of %s and %s: %v, %d", c.a, c.b, is, e)
		}
	}
	bad, worse := api.Value{Kind: api.VInt, Num: "01"}, api.Value{Kind: 77}
	twenty := slices.Repeat(vals(t, "1"), 20)
	for _, c := range []struct {
		a, b []api.Value
		want api.Errno
		is   bool
	}{
		{twenty, twenty, api.OK, false}, {append(slices.Clone(twenty), bad), nil, api.ErrMany, false}, {[]api.Value{worse}, append(slices.Clone(twenty), bad), api.ErrMany, false}, {[]api.Value{bad}, []api.Value{worse}, api.ErrForm, false}, {vals(t, "1;2"), []api.Value{worse, bad}, api.ErrKind, false},
		{append(vals(t, "1"), worse), []api.Value{bad}, api.ErrKind, false}, {twenty, twenty[1:], api.OK, true},
	} {
		if is, e := Below(c.a, c.b); is != c.is || e != c.want {
			t.Errorf("Below: %v, %d, want %d", is, e, c.want)
		}
	}
}

func TestRank(t *testing.T) { // P11.3
	for s, want := range map[string]int{
		"7": 7, "-7": 0, "0": 0, "10000": 10000, "-" + nines(120): 0, "5/2": 3, "2/1": 3, "0/1": 1, "1/2": 1, "-1/2": 0, "-5/1": 0, "9999/1": 10000, "19999/2": 10000, "true": 1, "false": 0, "200bv8": 200, "10000bv64": 10000, "[]": 0, "[1, 2]": 2, "{1}": 1, "multiset{1, 1, 1}": 3, "map[1 := 2, 3 := 4]": 2, "map[]": 0,
		"A()": 1, "A(B(), C(D()))": 3, "A([B()])": 2, "#7": 0, "#0": 0,
	} {
		if n, e := Rank(val(t, s)); n != want || e != api.OK {
			t.Errorf("Rank of %s: %d, %d", s, n, e)
		}
	}
	for _, s := range []string{"10001", nines(120), "10000/1", "20001/2", nines(120) + "/1", "10001bv64", "18446744073709551615bv64"} {
		if n, e := Rank(val(t, s)); n != 0 || e != api.ErrLarge {
			t.Errorf("Rank of %s: %d, %d", s, n, e)
		}
	}
	if n, e := Rank(api.Value{Kind: api.VInt}); n != 0 || e != api.ErrForm {
		t.Errorf("Rank of no value: %d, %d", n, e)
	}
}

// someValues are values of all kinds, many of which differ by little.
var someValues = []string{"0", "1", "2", "-1", "-2", "7", "0/1", "1/2", "1/1", "3/2", "2/1", "-1/2", "-3/2", "0bv2", "1bv2", "3bv2", "1bv3", "false", "true", "[]", "[1]", "[2]", "[1, 1]", "{}", "{1}", "{2}", "{1, 2}", "multiset{}", "multiset{1}", "multiset{1, 1}", "map[]", "map[1 := 1]", "map[1 := 2]", "map[1 := 1, 2 := 2]",
	"A()", "B()", "A(A())", "A(1)", "A([B()])", "A(A(A()))", "#0", "#1"}

func TestOrder(t *testing.T) { // P11.4
	l := vals(t, strings.Join(someValues, ";"))
	less := func(a, b api.Value) bool {
		is, _ := Less(a, b)
		return is
	}
	for i, a := range l {
		if less(a, a) {
			t.Errorf("%s is below itself", someValues[i])
		}
		for j, b := range l {
			if !less(a, b) {
				continue
			}
			low, _ := Rank(a)
			high, _ := Rank(b)
			// A negative number has the rank 0, as has the number 0, below which there are negative ones.
			if low > high || low == high && !strings.HasPrefix(a.Num, "-") {
				t.Errorf("%s is below %s, but its rank is %d, not below %d", someValues[i], someValues[j], low, high)
			}
			for k, c := range l {
				if less(b, c) && !less(a, c) {
					t.Errorf("%s is below %s, this below %s", someValues[i], someValues[j], someValues[k])
				}
			}
		}
	}
	r := rand.New(rand.NewSource(1))
	pick := func() []api.Value {
		var out []api.Value
		for range r.Intn(4) {
			out = append(out, l[r.Intn(len(l))])
		}
		return out
	}
	for range 3000 {
		a, b, c, front := pick(), pick(), pick(), pick()
		below := func(x, y []api.Value) bool {
			is, _ := Below(x, y)
			return is
		}
		if below(a, a) || below(a, b) && below(b, c) && !below(a, c) || below(a, b) != below(slices.Concat(front, a), slices.Concat(front, b)) {
			t.Errorf("Below of %v, %v and %v", a, b, c)
		}
	}
}
