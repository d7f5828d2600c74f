package term

import (
	"reflect"
	"slices"
	"strconv"
	"strings"
	"testing"

	"entail/api"
)

// given are the free variables of the terms in tests.
var given = []api.Bound{{Name: "x", Sort: "E"}, {Name: "y", Sort: "E"}, {Name: "z", Sort: "E"}, {Name: "i", Sort: "Int"}, {Name: "j", Sort: "Int"}, {Name: "u", Sort: "Bool"}, {Name: "v", Sort: "Bool"}, {Name: "w", Sort: "Real"}, {Name: "l", Sort: "L"}, {Name: "m", Sort: "Map<Int,E>"}}

// read parses a term with the given variables.
func read(t *testing.T, s string) api.Terms {
	t.Helper()
	out, at, e := Parse(sig(), given, s)
	if e != api.OK {
		t.Fatalf("Parse(%q): %d at %d", s, e, at)
	}
	return out
}

// text prints a term.
func text(t *testing.T, x api.Terms) string {
	t.Helper()
	s, e := Print(x)
	if e != api.OK {
		t.Fatalf("Print: %d", e)
	}
	return s
}

func quantified(op int, vars []api.Bound, kids ...int) api.Term {
	return api.Term{Op: op, Sort: "Bool", Vars: vars, Kids: kids}
}

func manyVars(n int) []api.Bound {
	var l []api.Bound
	for i := range n {
		l = append(l, api.Bound{Name: "x" + strconv.Itoa(i), Sort: "E"})
	}
	return l
}

func TestCheckForm(t *testing.T) { // P9.1
	truth, zero := api.Term{Op: api.LTrue, Sort: "Bool"}, api.Term{Op: api.LNum, Sort: "Int", Name: "0"}
	variable := api.Term{Op: api.LVar, Sort: "E", Name: "x"}
	trigger := api.Term{Op: api.LTrigger, Kids: []int{0}}
	one := []api.Bound{{Name: "x", Sort: "E"}}
	deep := func(n int) api.Terms {
		l := api.Terms{truth}
		for i := range n - 1 {
			l = append(l, api.Term{Op: api.LNot, Sort: "Bool", Kids: []int{i}})
		}
		return l
	}
	wide := func(n int) api.Terms {
		l := api.Terms(slices.Repeat([]api.Term{truth}, n-1))
		root := api.Term{Op: api.LAnd, Sort: "Bool"}
		for i := range n - 1 {
			root.Kids = append(root.Kids, i)
		}
		return append(l, root)
	}
	for i, c := range []struct {
		t    api.Terms
		want api.Errno
	}{
		{nil, api.ErrEmpty}, {wide(2000), api.OK}, {wide(2001), api.ErrMany}, {api.Terms(slices.Repeat([]api.Term{{Op: -1}}, 2001)), api.ErrMany}, {deep(60), api.OK}, {deep(61), api.ErrDeep},
		{api.Terms{{Op: -1}}, api.ErrKind}, {api.Terms{{Op: api.TermOps}}, api.ErrKind}, {api.Terms{{Op: api.TermOps, Kids: []int{7}}}, api.ErrKind},
		// The number and the order of children.
		{api.Terms{truth, {Op: api.LTrue, Sort: "Bool", Kids: []int{0}}}, api.ErrShape}, {api.Terms{truth, {Op: api.LNum, Kids: []int{0}}}, api.ErrShape}, {api.Terms{truth, {Op: api.LVar, Kids: []int{0}}}, api.ErrShape}, {api.Terms{{Op: api.LNot, Sort: "Bool"}}, api.ErrShape}, {api.Terms{truth, truth, {Op: api.LNot, Kids: []int{0, 1}}}, api.ErrShape},
		{api.Terms{truth, {Op: api.LImp, Kids: []int{0}}}, api.ErrShape}, {api.Terms{truth, {Op: api.LIff, Kids: []int{0}}}, api.ErrShape}, {api.Terms{truth, truth, {Op: api.LIte, Kids: []int{0, 1}}}, api.ErrShape}, {api.Terms{truth, {Op: api.LEq, Kids: []int{0}}}, api.ErrShape}, {api.Terms{truth, {Op: api.LAdd, Kids: []int{0}}}, api.ErrShape}, {api.Terms{truth, {Op: api.LLe, Kids: []int{0}}}, api.ErrShape},
		{api.Terms{quantified(api.LForall, one)}, api.ErrShape}, {api.Terms{quantified(api.LExists, nil)}, api.ErrShape}, {api.Terms{{Op: api.LTrigger}}, api.ErrShape}, {api.Terms{{Op: api.LAnd, Sort: "Bool"}}, api.OK}, {api.Terms{{Op: api.LOr, Sort: "Bool"}}, api.OK}, {api.Terms{{Op: api.LApp, Sort: "E", Name: "c"}}, api.OK},
		{api.Terms{truth, {Op: api.LNot, Sort: "Int", Kids: []int{1}}}, api.ErrOrder}, {api.Terms{truth, {Op: api.LNot, Kids: []int{-1}}}, api.ErrOrder}, {api.Terms{truth, truth, {Op: api.LAnd, Sort: "Bool", Kids: []int{1, 0}}}, api.ErrOrder}, {api.Terms{truth, truth, {Op: api.LNot, Sort: "Bool", Kids: []int{0}}}, api.ErrOrder}, {api.Terms{truth, truth, {Op: api.LAnd, Sort: "Bool", Kids: []int{1, 1}}}, api.ErrOrder}, {api.Terms{truth, truth, {Op: api.LNot, Sort: "Bool", Kids: []int{1}}}, api.ErrOrder}, {api.Terms{truth, truth}, api.ErrOrder},
		// Triggers.
		{api.Terms{variable, trigger}, api.ErrKind}, {api.Terms{variable, trigger, {Op: api.LNot, Sort: "Bool", Name: "x", Kids: []int{1}}}, api.ErrKind}, {api.Terms{variable, trigger, quantified(api.LForall, one, 1)}, api.ErrKind}, {api.Terms{truth, truth, quantified(api.LForall, one, 0, 1)}, api.ErrKind}, {api.Terms{variable, trigger, {Op: api.LTrigger, Kids: []int{1}}}, api.ErrKind}, {api.Terms{variable, trigger, truth, quantified(api.LForall, one, 1, 2)}, api.OK}, {api.Terms{variable, {Op: api.LTrigger, Kids: []int{0}, Sort: "E"}, truth, quantified(api.LForall, one, 1, 2)}, api.ErrSort}, {api.Terms{variable, trigger, {Op: api.LApp, Sort: "E", Kids: []int{1}}}, api.ErrKind},
		{api.Terms{truth, variable, trigger}, api.ErrOrder}, {api.Terms{truth, variable, {Op: api.LTrigger, Kids: []int{0, 1}}}, api.ErrKind},
		// Names.
		{api.Terms{{Op: api.LNum, Sort: "Int", Name: "01"}}, api.ErrName}, {api.Terms{{Op: api.LNum, Sort: "Int", Name: ""}}, api.ErrName}, {api.Terms{{Op: api.LNum, Sort: "Real", Name: "2/4"}}, api.ErrName}, {api.Terms{{Op: api.LNum, Sort: "Int", Name: strings.Repeat("9", 121)}}, api.ErrName}, {api.Terms{{Op: api.LNum, Sort: "Int", Name: strings.Repeat("9", 120)}}, api.OK}, {api.Terms{{Op: api.LVar, Sort: "E", Name: ""}}, api.ErrName}, {api.Terms{{Op: api.LVar, Sort: "E", Name: "a b"}}, api.ErrName}, {api.Terms{{Op: api.LVar, Sort: "E", Name: strings.Repeat("x", 201)}}, api.ErrName}, {api.Terms{{Op: api.LVar, Sort: "E", Name: strings.Repeat("x", 200)}}, api.OK}, {api.Terms{{Op: api.LVar, Sort: "?", Name: "=>"}}, api.OK},
		{api.Terms{{Op: api.LApp, Sort: "E"}}, api.ErrName}, {api.Terms{{Op: api.LApp, Sort: "E", Name: " ("}}, api.OK}, {api.Terms{{Op: api.LTrue, Sort: "Bool", Name: "true"}}, api.ErrName}, {api.Terms{zero, zero, {Op: api.LEq, Sort: "Bool", Name: "=", Kids: []int{0, 1}}}, api.ErrName},
		// Variables.
		{api.Terms{{Op: api.LTrue, Sort: "Bool", Vars: one}}, api.ErrMany}, {api.Terms{{Op: api.LVar, Name: "x", Vars: one}}, api.ErrMany}, {api.Terms{truth, quantified(api.LForall, nil, 0)}, api.ErrMany}, {api.Terms{truth, quantified(api.LExists, manyVars(12), 0)}, api.OK}, {api.Terms{truth, quantified(api.LExists, manyVars(13), 0)}, api.ErrMany}, {api.Terms{truth, quantified(api.LForall, []api.Bound{{Name: "a b"}, {Name: ""}}, 0)}, api.ErrName}, {api.Terms{truth, quantified(api.LForall, []api.Bound{{Name: "x"}, {Name: "x"}, {Name: ""}}, 0)}, api.ErrTwice}, {api.Terms{truth, quantified(api.LForall, []api.Bound{{Name: "x"}}, 0)}, api.OK},
		// Sorts.
		{api.Terms{{Op: api.LTrue, Sort: "Int"}}, api.ErrSort}, {api.Terms{{Op: api.LFalse}}, api.ErrSort}, {api.Terms{{Op: api.LNum, Sort: "Real", Name: "0"}}, api.ErrSort}, {api.Terms{{Op: api.LNum, Sort: "Int", Name: "0/1"}}, api.ErrSort}, {api.Terms{{Op: api.LNum, Sort: "Bool", Name: "0"}}, api.ErrSort}, {api.Terms{{Op: api.LVar, Name: "x"}}, api.ErrSort}, {api.Terms{{Op: api.LApp, Name: "x"}}, api.ErrSort}, {api.Terms{truth, zero, zero, {Op: api.LIte, Kids: []int{0, 1, 2}}}, api.ErrSort}, {api.Terms{truth, zero, zero, {Op: api.LIte, Sort: "?", Kids: []int{0, 1, 2}}}, api.OK},
		{api.Terms{zero, zero, {Op: api.LAdd, Sort: "E", Kids: []int{0, 1}}}, api.ErrSort}, {api.Terms{zero, zero, {Op: api.LAdd, Sort: "Real", Kids: []int{0, 1}}}, api.OK}, {api.Terms{zero, zero, {Op: api.LMul, Kids: []int{0, 1}}}, api.ErrSort}, {api.Terms{zero, zero, {Op: api.LLt, Sort: "Int", Kids: []int{0, 1}}}, api.ErrSort}, {api.Terms{zero, {Op: api.LNot, Sort: "Bool", Kids: []int{0}}}, api.OK}, {api.Terms{truth, {Op: api.LForall, Sort: "E", Vars: one, Kids: []int{0}}}, api.ErrSort},
		// The first node decides, then the order of the errors.
		{api.Terms{{Op: api.LTrue}, {Op: -1}}, api.ErrSort}, {api.Terms{{Op: api.LVar, Name: " ", Vars: one}}, api.ErrName}, {api.Terms{{Op: api.LTrue, Sort: "E", Vars: one}}, api.ErrMany}, {append(deep(61), truth), api.ErrOrder}, {append(deep(60), variable, api.Term{Op: api.LTrigger, Kids: []int{60}}), api.ErrOrder},
	} {
		if e := CheckForm(c.t); e != c.want {
			t.Errorf("%d: %d, want %d", i, e, c.want)
		}
		_, e := Sub(c.t, 0)
		_, f := Free(c.t)
		_, g := Subst(c.t, nil)
		_, h := Alpha(c.t, nil)
		_, k := Print(c.t)
		_, l := Simplify(c.t)
		_, m := Check(sig(), nil, c.t)
		if got := []api.Errno{e, f, g, h, k, l, m}; c.want != api.OK && !slices.Equal(got, slices.Repeat([]api.Errno{c.want}, 7)) {
			t.Errorf("%d: %v, want %d", i, got, c.want)
		}
		if alike, _ := Alpha(c.t, c.t); alike != (c.want == api.OK) {
			t.Errorf("%d: Alpha", i)
		}
		if c.want != api.OK {
			_, n := NNF(c.t)
			_, _, o := Skolem(c.t, "")
			_, p := Alpha(read(t, "true"), c.t)
			_, q := Make(99, c.t)
			_, r := Make(api.LNot, c.t)
			_, s := Quantify(api.LForall, nil, nil, c.t)
			_, u := Quantify(api.LForall, nil, [][]api.Terms{{}, {c.t}}, read(t, "1"))
			_, v := App(sig(), "f", c.t)
			if got := []api.Errno{n, o, p, r, s, u, v}; !slices.Equal(got, slices.Repeat([]api.Errno{c.want}, 7)) || q != api.ErrKind {
				t.Errorf("%d: %v, %d, want %d", i, got, q, c.want)
			}
		}
	}
}

func TestCheck(t *testing.T) { // P9.1
	for s, want := range map[string]string{"(cons (f c) nil)": "L", "(select$Map<Int,E> ?m 3)": "E", "?w": "Real", "(ite ?u ?i 3)": "Int", "(forall ((x Int)) (= ?x ?i))": "Bool", "(= ?u (p ?x))": "Bool", "(+ 1/2 ?w)": "Real", "(g 3 nil)": "Set<Int>"} {
		if sort, e := Check(sig(), given, read(t, s)); sort != want || e != api.OK {
			t.Errorf("Check(%s): %q, %d", s, sort, e)
		}
	}
	v := func(name, sort string) api.Term { return api.Term{Op: api.LVar, Name: name, Sort: sort} }
	app := func(name, sort string, kids ...int) api.Term {
		return api.Term{Op: api.LApp, Name: name, Sort: sort, Kids: kids}
	}
	zero, half := api.Term{Op: api.LNum, Sort: "Int", Name: "0"}, api.Term{Op: api.LNum, Sort: "Real", Name: "1/2"}
	made := func(op int, sort string, kids ...int) api.Term { return api.Term{Op: op, Sort: sort, Kids: kids} }
	for i, c := range []struct {
		vars []api.Bound
		t    api.Terms
		want api.Errno
	}{
		{given, api.Terms{v("x", "E")}, api.OK}, {nil, api.Terms{v("x", "E")}, api.ErrUnknown}, {given, api.Terms{v("x", "Int")}, api.ErrSort}, {nil, api.Terms{v("x", "F")}, api.ErrUnknown},
		{manyVars(100), api.Terms{v("x1", "E")}, api.OK}, {manyVars(101), api.Terms{v("a", "E")}, api.ErrMany}, {append(manyVars(100), api.Bound{}), nil, api.ErrEmpty}, {[]api.Bound{{Name: "", Sort: "F"}}, api.Terms{v("x", "E")}, api.ErrName}, {[]api.Bound{{Name: "x", Sort: "E"}, {Name: "x", Sort: "F"}}, api.Terms{v("x", "E")}, api.ErrTwice}, {[]api.Bound{{Name: "y", Sort: "F"}, {Name: "y", Sort: "F"}}, api.Terms{v("x", "E")}, api.ErrSort}, {[]api.Bound{{Name: "a b", Sort: "E"}}, api.Terms{v("x", "E")}, api.ErrName},
		{given, api.Terms{app("c", "E")}, api.OK}, {given, api.Terms{app("c", "L")}, api.ErrSort}, {given, api.Terms{app("none", "E")}, api.ErrUnknown}, {given, api.Terms{app("f", "E")}, api.ErrArgs}, {given, api.Terms{v("x", "E"), app("f", "E", 0)}, api.OK}, {given, api.Terms{v("i", "Int"), app("f", "E", 0)}, api.ErrSort}, {given, api.Terms{v("i", "Int"), app("none", "E", 0)}, api.ErrUnknown}, {given, api.Terms{v("i", "Int"), app("c", "E", 0)}, api.ErrArgs}, {given, api.Terms{v("i", "E"), app("none", "E", 0)}, api.ErrSort}, {given, api.Terms{app("true", "Bool")}, api.ErrUnknown},
		{given, api.Terms{zero, made(api.LNot, "Bool", 0)}, api.ErrSort}, {given, api.Terms{zero, made(api.LAnd, "Bool", 0)}, api.ErrSort}, {given, api.Terms{v("u", "Bool"), zero, made(api.LOr, "Bool", 0, 1)}, api.ErrSort}, {given, api.Terms{zero, v("u", "Bool"), made(api.LImp, "Bool", 0, 1)}, api.ErrSort}, {given, api.Terms{v("u", "Bool"), zero, made(api.LIff, "Bool", 0, 1)}, api.ErrSort},
		{given, api.Terms{zero, zero, zero, made(api.LIte, "Int", 0, 1, 2)}, api.ErrSort}, {given, api.Terms{v("u", "Bool"), zero, half, made(api.LIte, "Int", 0, 1, 2)}, api.ErrSort}, {given, api.Terms{v("u", "Bool"), zero, zero, made(api.LIte, "Real", 0, 1, 2)}, api.ErrSort}, {given, api.Terms{v("u", "Bool"), zero, zero, made(api.LIte, "Int", 0, 1, 2)}, api.OK},
		{given, api.Terms{zero, half, made(api.LEq, "Bool", 0, 1)}, api.ErrSort}, {given, api.Terms{zero, half, made(api.LAdd, "Int", 0, 1)}, api.ErrSort}, {given, api.Terms{zero, zero, made(api.LAdd, "Real", 0, 1)}, api.ErrSort}, {given, api.Terms{v("x", "E"), v("x", "E"), made(api.LAdd, "Int", 0, 1)}, api.ErrSort}, {given, api.Terms{half, half, made(api.LMul, "Real", 0, 1)}, api.OK}, {given, api.Terms{zero, half, made(api.LLt, "Bool", 0, 1)}, api.ErrSort}, {given, api.Terms{v("u", "Bool"), v("u", "Bool"), made(api.LLe, "Bool", 0, 1)}, api.ErrSort}, {given, api.Terms{half, half, made(api.LLe, "Bool", 0, 1)}, api.OK},
		{given, api.Terms{zero, quantified(api.LForall, []api.Bound{{Name: "x", Sort: "E"}}, 0)}, api.ErrSort}, {nil, api.Terms{v("x", "Bool"), quantified(api.LForall, []api.Bound{{Name: "x", Sort: "Bool"}}, 0)}, api.OK}, {given, api.Terms{v("x", "Bool"), quantified(api.LForall, []api.Bound{{Name: "x", Sort: "E"}}, 0)}, api.ErrSort}, {given, api.Terms{v("u", "Bool"), quantified(api.LForall, []api.Bound{{Name: "x", Sort: "E"}, {Name: "y", Sort: "F"}}, 0)}, api.ErrSort}, {nil, api.Terms{v("x", "E"), made(api.LTrigger, "", 0), v("x", "Bool"), quantified(api.LForall, []api.Bound{{Name: "x", Sort: "Bool"}}, 1, 2)}, api.ErrSort}, {nil, api.Terms{v("y", "E"), made(api.LTrigger, "", 0), v("x", "Bool"), quantified(api.LForall, []api.Bound{{Name: "x", Sort: "Bool"}}, 1, 2)}, api.ErrUnknown},
		// The innermost quantifier has the variable.
		{nil, api.Terms{v("x", "Bool"), quantified(api.LForall, []api.Bound{{Name: "x", Sort: "Bool"}}, 0), quantified(api.LForall, []api.Bound{{Name: "x", Sort: "Int"}}, 1)}, api.OK}, {nil, api.Terms{v("x", "Bool"), quantified(api.LForall, []api.Bound{{Name: "x", Sort: "Int"}}, 0), quantified(api.LForall, []api.Bound{{Name: "x", Sort: "Bool"}}, 1)}, api.ErrSort},
	} {
		if sort, e := Check(sig(), c.vars, c.t); e != c.want || (sort == "") != (e != api.OK) {
			t.Errorf("%d: %q, %d, want %d", i, sort, e, c.want)
		}
	}
}

func TestBuild(t *testing.T) { // P9.2
	if !Same(Bool(true), api.Terms{{Op: api.LTrue, Sort: "Bool"}}) || !Same(Bool(false), api.Terms{{Op: api.LFalse, Sort: "Bool"}}) {
		t.Error("Bool")
	}
	for _, c := range []struct {
		sort, s string
		want    api.Errno
	}{{"Int", "5", api.OK}, {"Real", "-1/2", api.OK}, {"Bool", "1", api.ErrSort}, {"", "x", api.ErrSort}, {"Int", "1/2", api.ErrForm}, {"Real", "5", api.ErrForm}, {"Int", "", api.ErrForm}, {"Int", "-0", api.ErrForm}, {"Int", strings.Repeat("9", 121), api.ErrForm}, {"Real", "2/4", api.ErrForm}} {
		x, e := Num(c.sort, c.s)
		if e != c.want || e == api.OK && !Same(x, api.Terms{{Op: api.LNum, Sort: c.sort, Name: c.s}}) || e != api.OK && x != nil {
			t.Errorf("Num(%q, %q): %v, %d", c.sort, c.s, x, e)
		}
	}
	if !Same(Var("a b", ""), api.Terms{{Op: api.LVar, Name: "a b"}}) {
		t.Error("Var")
	}
	deepest := strings.Repeat("(f ", 59) + "c" + strings.Repeat(")", 59)
	for _, c := range []struct {
		name string
		args []string
		want string
		e    api.Errno
	}{
		{"c", nil, "c", api.OK}, {"f", []string{"?x"}, "(f ?x)", api.OK}, {"cons", []string{"(f c)", "nil"}, "(cons (f c) nil)", api.OK}, {"is$nil", []string{"?l"}, "(is$nil ?l)", api.OK}, {"select$Map<Int,E>", []string{"?m", "3"}, "(select$Map<Int,E> ?m 3)", api.OK},
		{"none", []string{"?x"}, "", api.ErrUnknown}, {"f", nil, "", api.ErrArgs}, {"f", []string{"?x", "?x"}, "", api.ErrArgs}, {"f", []string{"?i"}, "", api.ErrSort}, {"cons", []string{"c", "c"}, "", api.ErrSort}, {"f", []string{deepest}, "", api.ErrDeep},
	} {
		var args []api.Terms
		for _, s := range c.args {
			args = append(args, read(t, s))
		}
		x, e := App(sig(), c.name, args...)
		if e != c.e || e == api.OK && text(t, x) != c.want || e != api.OK && x != nil {
			t.Errorf("App(%s, %v): %d", c.name, c.args, e)
		}
	}
	large := read(t, "(and"+strings.Repeat(" true", 1998)+")")
	for _, c := range []struct {
		op   int
		kids []string
		want string
		e    api.Errno
	}{
		{api.LNot, []string{"?u"}, "(not ?u)", api.OK}, {api.LAnd, nil, "(and)", api.OK}, {api.LOr, []string{"?u", "(p c)", "true"}, "(or ?u (p c) true)", api.OK}, {api.LImp, []string{"?u", "?v"}, "(=> ?u ?v)", api.OK}, {api.LIff, []string{"?u", "?v"}, "(iff ?u ?v)", api.OK}, {api.LIte, []string{"?u", "1", "2"}, "(ite ?u 1 2)", api.OK}, {api.LIte, []string{"?u", "c", "?x"}, "(ite ?u c ?x)", api.OK}, {api.LEq, []string{"nil", "?l"}, "(= nil ?l)", api.OK},
		{api.LAdd, []string{"1", "?i"}, "(+ 1 ?i)", api.OK}, {api.LSub, []string{"1/2", "?w"}, "(- 1/2 ?w)", api.OK}, {api.LMul, []string{"1", "2"}, "(* 1 2)", api.OK}, {api.LLt, []string{"1", "2"}, "(< 1 2)", api.OK}, {api.LLe, []string{"1/2", "1/2"}, "(<= 1/2 1/2)", api.OK},
		{api.LNot, nil, "", api.ErrShape}, {api.LNot, []string{"1", "1"}, "", api.ErrShape}, {api.LIte, []string{"?u", "1"}, "", api.ErrShape}, {api.LEq, []string{"1"}, "", api.ErrShape}, {api.LLe, []string{"1", "2", "3"}, "", api.ErrShape},
		{api.LNot, []string{"1"}, "", api.ErrSort}, {api.LAnd, []string{"?u", "1"}, "", api.ErrSort}, {api.LIte, []string{"1", "1", "1"}, "", api.ErrSort}, {api.LIte, []string{"?u", "1", "1/2"}, "", api.ErrSort}, {api.LEq, []string{"1", "1/2"}, "", api.ErrSort}, {api.LAdd, []string{"1", "1/2"}, "", api.ErrSort}, {api.LAdd, []string{"c", "c"}, "", api.ErrSort}, {api.LLt, []string{"?u", "?v"}, "", api.ErrSort},
		{api.LTrue, nil, "", api.ErrKind}, {api.LApp, nil, "", api.ErrKind}, {api.LForall, []string{"?u"}, "", api.ErrKind}, {-1, nil, "", api.ErrKind}, {api.TermOps, nil, "", api.ErrKind}, {api.LTrigger, []string{"?u"}, "", api.ErrKind},
	} {
		var kids []api.Terms
		for _, s := range c.kids {
			kids = append(kids, read(t, s))
		}
		x, e := Make(c.op, kids...)
		if e != c.e || e == api.OK && text(t, x) != c.want || e != api.OK && x != nil {
			t.Errorf("Make(%d, %v): %d", c.op, c.kids, e)
		}
	}
	deep := read(t, "(= (f c) c)")
	for range 57 {
		deep, _ = Make(api.LNot, deep)
	}
	if x, e := Make(api.LNot, deep); x != nil || e != api.ErrDeep {
		t.Errorf("61 levels: %d", e)
	}
	if _, e := Make(api.LNot, large); e != api.OK {
		t.Errorf("2000 nodes: %d", e)
	}
	if _, e := Make(api.LAnd, large, Bool(true)); e != api.ErrMany {
		t.Errorf("2001 nodes: %d", e)
	}
	if _, e := Make(api.LAnd, slices.Repeat([]api.Terms{large}, 1000)...); e != api.ErrMany {
		t.Errorf("many nodes: %d", e)
	}
}

func TestQuantify(t *testing.T) { // P9.2
	x := []api.Bound{{Name: "x", Sort: "E"}}
	one, body := read(t, "(f ?x)"), read(t, "(p ?x)")
	for i, c := range []struct {
		op       int
		vars     []api.Bound
		triggers [][]api.Terms
		body     api.Terms
		want     string
		e        api.Errno
	}{
		{api.LForall, x, nil, body, "(forall ((x E)) (p ?x))", api.OK}, {api.LExists, []api.Bound{{Name: "x", Sort: "E"}, {Name: "?", Sort: "?"}}, [][]api.Terms{{one, body}, {one}}, body, "(exists ((x E) (? ?)) (! (f ?x) (p ?x)) (! (f ?x)) (p ?x))", api.OK},
		{api.LAnd, nil, nil, nil, "", api.ErrKind}, {api.LForall, nil, nil, nil, "", api.ErrEmpty}, {api.LForall, nil, [][]api.Terms{{}}, one, "", api.ErrShape}, {api.LForall, nil, [][]api.Terms{{one}, {}, {nil}}, one, "", api.ErrEmpty}, {api.LForall, nil, nil, one, "", api.ErrSort}, {api.LForall, nil, nil, body, "", api.ErrMany}, {api.LForall, manyVars(13), nil, body, "", api.ErrMany}, {api.LForall, append(x, x...), nil, body, "", api.ErrTwice}, {api.LForall, []api.Bound{{Name: " "}}, nil, body, "", api.ErrName}, {api.LForall, manyVars(12), nil, body, "(forall ((x0 E) (x1 E) (x2 E) (x3 E) (x4 E) (x5 E) (x6 E) (x7 E) (x8 E) (x9 E) (x10 E) (x11 E)) (p ?x))", api.OK},
		{api.LForall, x, slices.Repeat([][]api.Terms{{one}}, 700), body, "", api.ErrMany},
	} {
		got, e := Quantify(c.op, c.vars, c.triggers, c.body)
		if e != c.e || e == api.OK && text(t, got) != c.want || e != api.OK && got != nil {
			t.Errorf("%d: %d, want %d", i, e, c.e)
		}
	}
	for n, want := range map[int]api.Errno{1998: api.OK, 1999: api.ErrMany} {
		if _, e := Quantify(api.LForall, x, nil, read(t, "(and"+strings.Repeat(" ?u", n)+")")); e != want {
			t.Errorf("%d nodes: %d, want %d", n+2, e, want)
		}
	}
	q, _ := Quantify(api.LForall, x, nil, body)
	x[0].Name = "changed"
	if text(t, q) != "(forall ((x E)) (p ?x))" {
		t.Error("a quantifier that is changed")
	}
}

func TestSub(t *testing.T) { // P9.2
	x := read(t, "(forall ((y E)) (! (f ?y)) (and (p ?y) (= (f ?x) c)))")
	for i := range x {
		part, e := Sub(x, i)
		if e != api.OK || len(part) == 0 {
			t.Fatalf("Sub at %d: %d", i, e)
		}
		if f := CheckForm(part); f != api.OK && x[i].Op != api.LTrigger {
			t.Errorf("Sub at %d: %d", i, f)
		}
	}
	if part, _ := Sub(x, 8); text(t, part) != "(= (f ?x) c)" {
		t.Errorf("Sub: %s", text(t, part))
	}
	if part, e := Sub(x, 2); e != api.OK || !reflect.DeepEqual(part[2], api.Term{Op: api.LTrigger, Kids: []int{1}}) {
		t.Errorf("Sub of a trigger: %v, %d", part, e)
	}
	if whole, e := Sub(x, len(x)-1); e != api.OK || !Same(whole, x) {
		t.Errorf("Sub of the root: %d", e)
	}
	for _, node := range []int{-1, len(x), 1 << 60} {
		if part, e := Sub(x, node); part != nil || e != api.ErrUnknown {
			t.Errorf("Sub at %d: %d", node, e)
		}
	}
}
