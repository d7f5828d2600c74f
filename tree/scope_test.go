package tree

import (
	"math/rand"
	"slices"
	"strconv"
	"strings"
	"testing"

	"entail/api"
)

func checkFree(t *testing.T, s api.Tree, want ...string) {
	t.Helper()
	if l, e := Free(s); e != api.OK || !slices.Equal(l, want) {
		t.Errorf("Free: %v, %d, want %v", l, e, want)
	}
}

// caseOf is a case with the pattern C(y, D(z, _), 1).
func caseOf(op int, body api.Tree) api.Tree {
	return raw(op, "", raw(api.PCons, "C", raw(api.PVar, "y"), raw(api.PCons, "D", raw(api.PVar, "z"), wild()), raw(api.PLit, "", number(1))), body)
}

func all(names ...string) api.Tree {
	var l []api.Tree
	for _, n := range names {
		l = append(l, v(n))
	}
	return raw(api.ESeq, "", l...)
}

func TestFree(t *testing.T) { // P2.3
	i := integer()
	q := func(s string) api.Tree { return raw(api.QVar, s, i) }
	checkFree(t, sum(), "x", "y")
	checkFree(t, all("x", "y", "x", "M::c"), "x", "y")
	checkFree(t, raw(api.ELet, "x", v("x"), all("x", "y")), "x", "y")
	checkFree(t, raw(api.ELet, "x", number(1), all("x", "y")), "y")
	checkFree(t, raw(api.EForall, "", q("x"), q("y"), raw(api.QTrigger, "", all("x", "a")), all("y", "z")), "a", "z")
	checkFree(t, raw(api.EExists, "", q("x"), all("x", "z")), "z")
	checkFree(t, raw(api.ESetOf, "", q("x"), all("x", "a"), all("b", "x")), "a", "b")
	checkFree(t, raw(api.EMatch, "", v("y"), caseOf(api.ECase, all("y", "z", "w")), raw(api.ECase, "", wild(), v("z"))), "y", "w", "z")
	checkFree(t, block(raw(api.SVar, "x", i, v("x")), raw(api.SAssign, "", v("y"), v("x"))), "x", "y")
	checkFree(t, block(raw(api.SAssign, "", v("x"), number(1)), raw(api.SGhostVar, "x", i), raw(api.SPrint, "", v("x"))), "x")
	checkFree(t, block(block(raw(api.SVar, "x", i)), raw(api.SPrint, "", v("x"))), "x")
	checkFree(t, block(raw(api.SVar, "x", i), block(raw(api.SPrint, "", v("x")))))
	checkFree(t, raw(api.SVar, "x", i, v("x")), "x")
	checkFree(t, raw(api.SNew, "x", name("C"), v("y")), "y", "x")
	checkFree(t, raw(api.SNewArray, "x", i, v("y"), v("z")), "y", "z", "x")
	checkFree(t, raw(api.SChoose, "x", less(v("x"), v("y"))), "x", "y")
	checkFree(t, block(raw(api.SVar, "x", i), raw(api.SNew, "x", name("C")), raw(api.SChoose, "y", v("x"))), "y")
	checkFree(t, raw(api.SCall, "f", raw(api.SLhs, "", v("a"), v("M::b")), v("c")), "a", "c")
	checkFree(t, raw(api.SMatch, "", v("z"), caseOf(api.SCase, block(raw(api.SPrint, "", all("y", "z", "w"))))), "z", "w")
	checkFree(t, raw(api.SForall, "", q("x"), all("x", "a"), raw(api.CEnsures, "", all("x", "b")), block(raw(api.SPrint, "", all("x", "c")))), "a", "b", "c")
	checkFree(t, raw(api.DSubset, "S", raw(api.DParam, "x", i), all("x", "a"), all("x", "b")), "a", "x", "b")
	checkFree(t, raw(api.EField, "f", v("x")), "x")
	checkFree(t, raw(api.DConst, "c", i, all("c", "d")), "c", "d")
	checkFree(t, raw(api.DFunction, "f", raw(api.DParam, "x", i), raw(api.DGhostParam, "y", i), raw(api.DResult, "", i), raw(api.CRequires, "", all("x", "a")),
		raw(api.CReads, "", all("y", "b")), raw(api.CEnsures, "", v("x")), raw(api.CDecreases, "", all("x", "c")), all("y", "d", "f")), "a", "b", "c", "d", "f")
	checkFree(t, raw(api.DMethod, "m", raw(api.DParam, "x", i), raw(api.DOut, "o", i), raw(api.CRequires, "", all("x", "o")), raw(api.CModifies, "", all("x")),
		raw(api.CEnsures, "", all("o", "x", "a")), raw(api.CDecreases, "", all("p", "x")), block(raw(api.SPrint, "", all("o", "x", "b")))), "o", "a", "p", "b")
	checkFree(t, raw(api.DMethod, "m", raw(api.DOut, "o", i), raw(api.CDecreases, "", v("o"))), "o")
	checkFree(t, raw(api.DClass, "C", raw(api.DField, "f", i)))
	if l, e := Free(v("X")); l != nil || e != api.ErrName {
		t.Errorf("Free of no tree: %v, %d", l, e)
	}
}

func TestBound(t *testing.T) { // P2.3
	i := integer()
	q := func(s string) api.Tree { return raw(api.QVar, s, i) }
	here := v("here")
	for n, c := range []struct {
		s    api.Tree
		want string
	}{
		{here, ""}, {raw(api.ELet, "x", v("a"), here), "x"}, {raw(api.ELet, "x", here, v("a")), ""}, {raw(api.EForall, "", q("x"), q("y"), here), "x y"},
		{raw(api.EForall, "", q("x"), raw(api.QTrigger, "", here), v("a")), "x"}, {raw(api.EForall, "", q("here"), v("a")), ""},
		{raw(api.EForall, "", q("x"), q("y"), raw(api.ELet, "z", v("a"), raw(api.EExists, "", q("x"), here))), "y z x"},
		{raw(api.ESetOf, "", q("x"), here, v("a")), "x"}, {raw(api.ESetOf, "", q("x"), v("a"), here), "x"}, {raw(api.EMatch, "", v("a"), caseOf(api.ECase, here)), "y z"},
		{raw(api.EMatch, "", here, caseOf(api.ECase, v("a"))), ""}, {raw(api.ECase, "", raw(api.PVar, "here"), v("a")), ""},
		{block(raw(api.SVar, "x", i), raw(api.SGhostVar, "y", i), raw(api.SPrint, "", here), raw(api.SVar, "z", i)), "x y"}, {block(raw(api.SVar, "x", i, here)), ""},
		{block(raw(api.SVar, "x", i), raw(api.SVar, "here", i)), "x"}, {block(raw(api.SVar, "x", i), raw(api.SVar, "y", i), raw(api.SVar, "x", i), raw(api.SPrint, "", here)), "y x"},
		{raw(api.SMatch, "", v("a"), caseOf(api.SCase, block(raw(api.SNew, "here", name("C"))))), "y z"},
		{raw(api.SForall, "", q("x"), here, raw(api.CEnsures, "", v("a")), block()), "x"}, {raw(api.DSubset, "S", raw(api.DParam, "x", i), here, v("a")), "x"},
		{raw(api.DSubset, "S", raw(api.DParam, "x", i), v("a"), here), ""},
		{raw(api.DMethod, "m", raw(api.DGhostParam, "x", i), raw(api.DOut, "o", i), raw(api.CRequires, "", here)), "x"},
		{raw(api.DMethod, "m", raw(api.DGhostParam, "x", i), raw(api.DOut, "o", i), raw(api.CEnsures, "", here)), "x o"},
		{raw(api.DMethod, "m", raw(api.DGhostParam, "x", i), raw(api.DOut, "o", i), raw(api.CDecreases, "", here)), "x"},
		{raw(api.DMethod, "m", raw(api.DParam, "x", i), raw(api.DOut, "o", i), block(raw(api.SVar, "y", i), raw(api.SPrint, "", here))), "x o y"},
		{raw(api.DFunction, "f", raw(api.DParam, "x", i), raw(api.DResult, "", i), here), "x"}, {raw(api.DFunction, "f", raw(api.DParam, "x", i), raw(api.DResult, "", name("Here"))), ""},
	} {
		node := slices.IndexFunc(c.s, func(n api.Node) bool { return strings.EqualFold(n.Text, "here") })
		l, e := Bound(c.s, node)
		if e != api.OK || strings.Join(l, " ") != c.want {
			t.Errorf("case %d: Bound: %v, %d, want %s", n, l, e, c.want)
		}
	}
	f := raw(api.DFunction, "f", raw(api.DParam, "x", i), raw(api.DResult, "", i), raw(api.CRequires, "", v("x")))
	for node, want := range []string{"", "", "", "", "x", "x", ""} {
		if l, e := Bound(f, node); e != api.OK || strings.Join(l, " ") != want {
			t.Errorf("Bound at %d: %v, %d", node, l, e)
		}
	}
	for _, node := range []int{-1, 7} {
		if l, e := Bound(f, node); l != nil || e != api.ErrUnknown {
			t.Errorf("Bound at %d: %v, %d", node, l, e)
		}
	}
	if l, e := Bound(v("X"), 4); l != nil || e != api.ErrName {
		t.Errorf("Bound of no tree: %v, %d", l, e)
	}
}

func TestGlobals(t *testing.T) { // P2.3
	s := block(raw(api.SVar, "x", name("M::C", name("T")), raw(api.ECall, "f", v("x"), v("M::c"))), raw(api.SCall, "m", raw(api.SLhs, "", v("y")), raw(api.ECons, "Nil")),
		raw(api.SReveal, "g"), raw(api.SMatch, "", raw(api.EIs, "Cons", v("z")), raw(api.SCase, "", raw(api.PCons, "Nil"), block(raw(api.SReveal, "f")))),
		raw(api.SNew, "n", name("Box"), raw(api.EField, "field", v("n"))), raw(api.SForall, "", raw(api.QVar, "q", integer()), v("q"), raw(api.CEnsures, "", v("q")), block()))
	want := []string{"T", "M::C", "M::c", "f", "Nil", "m", "g", "Cons", "Box"}
	if l, e := Globals(s); e != api.OK || !slices.Equal(l, want) {
		t.Errorf("Globals: %v, %d", l, e)
	}
	d := raw(api.MProgram, "", raw(api.MModule, "M", raw(api.MImport, "N"), raw(api.MExport, "", raw(api.MName, "f")), raw(api.DDatatype, "D", raw(api.DTypeParam, "T"), raw(api.DCons, "C", raw(api.DField, "f", name("T"))))))
	if l, e := Globals(d); e != api.OK || !slices.Equal(l, []string{"T"}) {
		t.Errorf("Globals: %v, %d", l, e)
	}
	if l, e := Globals(v("X")); l != nil || e != api.ErrName {
		t.Errorf("Globals of no tree: %v, %d", l, e)
	}
}

func TestSubst(t *testing.T) { // P2.3
	y1 := plus(v("y"), number(1))
	i := integer()
	q := func(s string) api.Tree { return raw(api.QVar, s, i) }
	match := func(scrutinee api.Tree, cases ...api.Tree) api.Tree {
		return raw(api.EMatch, "", append([]api.Tree{scrutinee}, cases...)...)
	}
	for _, c := range []struct {
		s    api.Tree
		by   api.Tree
		want string
	}{
		{v("x"), y1, "y + 1"}, {v("z"), y1, "z"}, {v("M::x"), y1, "M::x"}, {sum(), number(3), "3 + 2 * y"}, {all("x", "x"), v("x"), "[x, x]"},
		{quantified1("y", less(v("x"), v("y"))), y1, "forall v_0: int :: y + 1 < v_0"}, {quantified1("y", less(v("z"), v("y"))), y1, "forall y: int :: z < y"},
		{quantified1("x", less(v("x"), v("y"))), y1, "forall x: int :: x < y"}, {quantified1("z", less(v("x"), v("y"))), y1, "forall z: int :: y + 1 < y"},
		{quantified1("y", less(v("x"), v("v_0"))), y1, "forall v_1: int :: y + 1 < v_0"}, {quantified1("y", less(v("x"), v("y"))), plus(v("y"), v("v_0")), "forall v_1: int :: y + v_0 < v_1"},
		{quantified1("y", less(v("x"), raw(api.EField, "v_0", v("y")))), y1, "forall v_1: int :: y + 1 < v_1.v_0"},
		{quantified1("y", less(v("x"), raw(api.ECall, "M::v_0", v("y")))), y1, "forall v_0: int :: y + 1 < M::v_0(v_0)"},
		{quantified1("y", quantified1("y", less(v("x"), v("y")))), y1, "forall v_0: int :: forall v_1: int :: y + 1 < v_1"},
		{quantified1("y", less(v("y"), quantified1("y", less(v("x"), v("y"))))), y1, "forall v_0: int :: v_0 < (forall v_1: int :: y + 1 < v_1)"},
		{quantified1("y", less(v("x"), quantified1("y", less(v("z"), v("y"))))), y1, "forall v_0: int :: y + 1 < (forall y: int :: z < y)"},
		{quantified1("y", less(quantified1("y", less(v("x"), v("y"))), quantified1("y", less(v("x"), v("y"))))), y1, "forall v_0: int :: (forall v_1: int :: y + 1 < v_1) < (forall v_2: int :: y + 1 < v_2)"},
		{less(quantified1("y", quantified1("y", v("x"))), quantified1("y", v("x"))), y1, "(forall v_0: int :: forall v_1: int :: y + 1) < (forall v_2: int :: y + 1)"},
		{raw(api.EExists, "", q("y"), q("z"), q("a"), raw(api.QTrigger, "", v("y")), all("x", "y", "z", "a")), all("a", "y"), "exists v_0: int, z: int, v_1: int {v_0} :: [[a, y], v_0, z, v_1]"},
		{raw(api.EForall, "", q("y"), raw(api.QTrigger, "", v("x")), v("y")), y1, "forall v_0: int {y + 1} :: v_0"},
		{raw(api.ELet, "y", all("x", "y"), v("y")), y1, "var y := [y + 1, y]; y"}, {raw(api.ELet, "y", v("y"), all("x", "y")), y1, "var v_0 := y; [y + 1, v_0]"},
		{raw(api.ELet, "x", v("x"), v("x")), y1, "var x := y + 1; x"}, {raw(api.ESetOf, "", q("y"), v("x"), v("y")), y1, "set v_0: int | y + 1 :: v_0"},
		{raw(api.ELet, "y", quantified1("y", v("x")), v("x")), y1, "var v_0 := forall v_1: int :: y + 1; y + 1"},
		{match(v("y"), caseOf(api.ECase, all("x", "y", "z"))), all("z", "y"), "match y { case C(v_0, D(v_1, _), 1) => [[z, y], v_0, v_1] }"},
		{match(v("x"), caseOf(api.ECase, all("y", "z")), raw(api.ECase, "", raw(api.PVar, "y"), all("y", "x"))), y1, "match y + 1 { case C(y, D(z, _), 1) => [y, z] case v_0 => [v_0, y + 1] }"},
		{match(v("x"), raw(api.ECase, "", raw(api.PVar, "x"), all("y", "x"))), y1, "match y + 1 { case x => [y, x] }"},
		{quantified1("y", less(v("x"), quantified1("v_0", less(v("y"), v("v_0"))))), y1, "forall v_1: int :: y + 1 < (forall v_0: int :: v_1 < v_0)"},
		{raw(api.EOld, "", v("x")), y1, "old(y + 1)"},
	} {
		out, e := Subst(c.s, "x", c.by)
		if e != api.OK {
			t.Errorf("Subst for %s: %d", c.want, e)
			continue
		}
		if s := mustPrint(t, out); s != c.want {
			t.Errorf("Subst: %s, want %s", s, c.want)
		}
	}
}

func TestSubstOffsets(t *testing.T) { // P2.3
	by := plus(v("a"), v("b"))
	for i := range by {
		by[i].At = 100 + i
	}
	s, e := Subst(sum(), "x", by)
	ats := transform(s, func(n api.Node) int { return n.At })
	if e != api.OK || !slices.Equal(ats, []int{100, 101, 102, 11, 12, 13, 14}) {
		t.Errorf("offsets: %v, %d", ats, e)
	}
	s[2].Kids[0] = 9
	if by[2].Kids[0] != 0 {
		t.Error("Subst shares memory")
	}
}

// full is a sequence of n numbers and x.
func full(n int) api.Tree {
	l := []api.Tree{v("x")}
	for range n - 1 {
		l = append(l, number(1))
	}
	return raw(api.ESeq, "", l...)
}

func TestSubstErrors(t *testing.T) { // P2.3
	deep := v("x")
	for range 59 {
		deep = raw(api.ENot, "", deep)
	}
	var list []api.Tree
	for range 3000 {
		list = append(list, v("x"))
	}
	wide := raw(api.ESeq, "", list...)
	for i, c := range []struct {
		t    api.Tree
		name string
		by   api.Tree
		want api.Errno
	}{
		{nil, "X", v("X"), api.ErrEmpty}, {v("x"), "X", v("X"), api.ErrName}, {v("x"), "X", nil, api.ErrEmpty}, {v("x"), "X", integer(), api.ErrName}, {v("x"), "", v("y"), api.ErrName},
		{v("x"), "M::x", v("y"), api.ErrName}, {v("x"), "if", v("y"), api.ErrName}, {integer(), "x", v("y"), api.ErrKind}, {v("x"), "x", integer(), api.ErrKind},
		{block(), "x", v("y"), api.ErrKind}, {wild(), "x", v("y"), api.ErrKind}, {v("x"), "x", raw(api.ECase, "", wild(), v("x")), api.ErrKind},
		{deep, "x", sum(), api.ErrDeep}, {deep, "z", sum(), api.OK}, {deep, "x", v("y"), api.OK}, {wide, "x", sum(), api.ErrMany}, {wide, "x", wide, api.ErrMany}, {full(3999), "z", sum(), api.OK}, {full(3995), "x", sum(), api.OK}, {full(3996), "x", sum(), api.ErrMany}, {wide, "x", v("y"), api.OK},
	} {
		if s, e := Subst(c.t, c.name, c.by); e != c.want || e != api.OK && s != nil {
			t.Errorf("case %d: %d nodes, %d, want %d", i, len(s), e, c.want)
		}
	}
}

func TestRename(t *testing.T) { // P2.3
	i := integer()
	s := block(raw(api.SAssign, "", v("x"), v("z")), raw(api.SNew, "x", name("C")), raw(api.SNewArray, "x", i, v("x"), v("x")), raw(api.SChoose, "x", v("x")),
		raw(api.SCall, "f", raw(api.SLhs, "", v("x")), raw(api.EField, "x", v("x"))), raw(api.SPrint, "", quantified1("x", less(v("x"), v("M::x")))), raw(api.SVar, "x", i, v("x")), raw(api.SPrint, "", v("x")))
	want := "{\n  y := z;\n  y := new C();\n  y := new array<int>(y, y);\n  y :| y;\n  y := call f(y.x);\n  print forall x: int :: x < M::x;\n  var x: int := y;\n  print x;\n}"
	out, e := Rename(s, "x", "y")
	if e != api.OK || mustPrint(t, out) != want {
		t.Errorf("Rename: %d, %s", e, mustPrint(t, out))
	}
	pattern := raw(api.ECase, "", raw(api.PVar, "x"), v("x"))
	if same, e := Rename(pattern, "x", "y"); e != api.OK || !Same(same, pattern) {
		t.Errorf("Rename of a bound variable: %v, %d", same, e)
	}
	if same, e := Rename(s, "x", "x"); e != api.OK || !equal(same, s) {
		t.Errorf("Rename to the same name: %d", e)
	}
	for n, c := range []struct {
		t        api.Tree
		from, to string
		want     api.Errno
	}{
		{nil, "X", "X", api.ErrEmpty}, {s, "X", "y", api.ErrName}, {s, "x", "Y", api.ErrName}, {s, "x", "M::y", api.ErrName}, {s, "x", "", api.ErrName}, {s, "x", "int", api.ErrName},
		{s, "x", "z", api.ErrTwice}, {s, "x", "f", api.ErrTwice}, {s, "a", "x", api.ErrTwice}, {s, "a", "b", api.OK}, {sum(), "x", "y", api.ErrTwice},
		{quantified1("y", v("x")), "x", "y", api.ErrTwice},
	} {
		if out, e := Rename(c.t, c.from, c.to); e != c.want || e != api.OK && out != nil {
			t.Errorf("case %d: %d, want %d", n, e, c.want)
		}
	}
}

// plainForm is a tree with places in place of bound variables, and with an expression in place of a free one: what
// substitution means, without any renaming.
func plainForm(t api.Tree, node int, env []string, x string, by api.Tree) string {
	n := t[node]
	isVariable := n.Op == api.EVar && !strings.Contains(n.Text, "::")
	if isVariable {
		for i := len(env) - 1; i >= 0; i-- {
			if env[i] == n.Text {
				return "#" + strconv.Itoa(len(env)-i)
			}
		}
		if n.Text == x && by != nil {
			return plainForm(by, len(by)-1, nil, "", nil)
		}
	}
	text, binds, from := n.Text, []string(nil), 1
	switch n.Op {
	case api.ELet:
		text, binds = "", []string{n.Text}
	case api.ECase:
		for i := firstNode(t, n.Kids[0]); i <= n.Kids[0]; i++ {
			if t[i].Op == api.PVar {
				binds = append(binds, t[i].Text)
			}
		}
	case api.EForall, api.EExists, api.ESetOf:
		from = 0
		for _, kid := range n.Kids {
			if t[kid].Op == api.QVar {
				binds = append(binds, t[kid].Text)
				from++
			}
		}
	case api.QVar, api.PVar:
		text = ""
	}
	out := "(" + strconv.Itoa(n.Op) + " " + text
	for place, kid := range n.Kids {
		inside := env
		if place >= from {
			inside = slices.Concat(env, binds)
		}
		out += " " + plainForm(t, kid, inside, x, by)
	}
	return out + ")"
}

func firstNode(t api.Tree, node int) int {
	for len(t[node].Kids) > 0 {
		node = t[node].Kids[0]
	}
	return node
}

// freeNames returns the free variables of an expression, by its plain form.
func freeNames(t api.Tree) []string {
	var l []string
	form := plainForm(t, len(t)-1, nil, "", nil)
	for _, n := range []string{"x", "y", "z", "v_0", "v_1"} {
		if strings.Contains(form, "("+strconv.Itoa(api.EVar)+" "+n+")") {
			l = append(l, n)
		}
	}
	return l
}

func TestSubstMeaning(t *testing.T) { // P2.3, P2.5
	g := generator{rand.New(rand.NewSource(3))}
	renamed := 0
	for range 8000 {
		s, by := g.expression(1+g.Intn(5)), g.expression(g.Intn(3))
		if len(s) > 300 {
			continue
		}
		out, e := Subst(s, "x", by)
		if e == api.ErrMany || e == api.ErrDeep {
			continue
		}
		if e != api.OK {
			t.Fatalf("Subst: %d", e)
		}
		want := plainForm(s, len(s)-1, nil, "x", by)
		if got := plainForm(out, len(out)-1, nil, "", nil); got != want {
			t.Fatalf("%s with %s for x: %s", mustPrint(t, s), mustPrint(t, by), mustPrint(t, out))
		}
		if strings.Contains(mustPrint(t, out), "v_2") {
			renamed++
		}
		sorted := func(l []string, e api.Errno) []string {
			if e != api.OK {
				t.Fatalf("Free: %d", e)
			}
			return slices.Sorted(slices.Values(l))
		}
		free := sorted(Free(s))
		if !slices.Equal(free, slices.Sorted(slices.Values(freeNames(s)))) {
			t.Fatalf("Free of %s: %v", mustPrint(t, s), free)
		}
		expected := slices.DeleteFunc(slices.Clone(free), func(n string) bool { return n == "x" })
		if slices.Contains(free, "x") {
			expected = slices.Compact(slices.Sorted(slices.Values(append(expected, sorted(Free(by))...))))
		}
		if got := sorted(Free(out)); !slices.Equal(got, expected) {
			t.Fatalf("Free of %s: %v, want %v", mustPrint(t, out), got, expected)
		}
	}
	if renamed < 50 {
		t.Errorf("only %d results with renamed variables", renamed)
	}
}

func TestRenameBack(t *testing.T) { // P2.5
	g := generator{rand.New(rand.NewSource(4))}
	back := 0
	for range 3000 {
		s := g.any()
		out, e := Rename(s, "x", "fresh_name")
		if e != api.OK {
			t.Fatalf("Rename: %d", e)
		}
		l, _ := Free(s)
		m, _ := Free(out)
		for i, n := range l {
			if n == "x" {
				l[i] = "fresh_name"
			}
		}
		if !slices.Equal(l, m) {
			t.Fatalf("Free: %v, want %v", m, l)
		}
		again, e := Rename(out, "fresh_name", "x")
		if e == api.ErrTwice {
			continue
		}
		if e != api.OK || !equal(again, s) {
			t.Fatalf("Rename back: %d", e)
		}
		back++
	}
	if back < 500 {
		t.Errorf("only %d trees came back", back)
	}
}
