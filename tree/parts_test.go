package tree

import (
	"math/rand"
	"slices"
	"testing"

	"entail/api"
)

// equal compares trees with their offsets.
func equal(a, b api.Tree) bool {
	return Same(a, b) && slices.EqualFunc(a, b, func(x, y api.Node) bool { return x.At == y.At })
}

// sum is x + 2 * y, with offsets.
func sum() api.Tree {
	s := plus(v("x"), raw(api.EMul, "", number(2), v("y")))
	for i := range s {
		s[i].At = 10 + i
	}
	return s
}

func TestSub(t *testing.T) { // P2.2
	s, e := Sub(sum(), 3)
	want := raw(api.EMul, "", number(2), v("y"))
	for i := range want {
		want[i].At = 11 + i
	}
	if e != api.OK || !equal(s, want) {
		t.Errorf("Sub: %v, %d", s, e)
	}
	if s, e := Sub(sum(), 4); e != api.OK || !equal(s, sum()) {
		t.Errorf("Sub of the root: %v, %d", s, e)
	}
	if s, e := Sub(sum(), 0); e != api.OK || len(s) != 1 || s[0].Text != "x" {
		t.Errorf("Sub of a leaf: %v, %d", s, e)
	}
	s, _ = Sub(sum(), 4)
	original := sum()
	copied, _ := Sub(original, 4)
	copied[4].Kids[0], copied[0].Text = 77, "changed"
	if !equal(original, sum()) || !equal(s, sum()) {
		t.Error("Sub shares memory")
	}
}

func TestKids(t *testing.T) { // P2.2
	l, e := Kids(sum(), 4)
	if e != api.OK || len(l) != 2 || !Same(l[0], v("x")) || !Same(l[1], raw(api.EMul, "", number(2), v("y"))) || l[1][0].At != 11 {
		t.Errorf("Kids: %v, %d", l, e)
	}
	if l, e := Kids(sum(), 1); e != api.OK || len(l) != 0 {
		t.Errorf("Kids of a leaf: %v, %d", l, e)
	}
}

func TestReplace(t *testing.T) { // P2.2
	by := plus(v("a"), v("b"))
	by[2].At = 99
	for node, want := range map[int]api.Tree{
		0: plus(by, raw(api.EMul, "", number(2), v("y"))), 1: plus(v("x"), raw(api.EMul, "", by, v("y"))),
		2: plus(v("x"), raw(api.EMul, "", number(2), by)), 3: plus(v("x"), by), 4: by,
	} {
		s, e := Replace(sum(), node, by)
		if e != api.OK || !Same(s, want) {
			t.Errorf("Replace of %d: %v, %d", node, s, e)
		}
	}
	s, _ := Replace(sum(), 0, by)
	if s[2].At != 99 || s[3].At != 11 || s[6].At != 14 {
		t.Errorf("offsets are not kept: %v", s)
	}
	if s, e := Replace(sum(), 3, v("z")); e != api.OK || !Same(s, plus(v("x"), v("z"))) {
		t.Errorf("Replace by a leaf: %v, %d", s, e)
	}
	s, _ = Replace(by, 2, by)
	s[2].Kids[0] = 5
	if by[2].Kids[0] != 0 {
		t.Error("Replace shares memory")
	}
}

func TestPartErrors(t *testing.T) { // P2.2
	deep := v("x")
	for range 59 {
		deep = raw(api.ENot, "", deep)
	}
	var list []api.Tree
	for range 2500 {
		list = append(list, v("x"))
	}
	wide := raw(api.ESeq, "", list...)
	for i, c := range []struct {
		t    api.Tree
		node int
		by   api.Tree
		want api.Errno
	}{
		{nil, 0, v("x"), api.ErrEmpty}, {v("X"), 5, nil, api.ErrName}, {v("x"), 5, nil, api.ErrEmpty}, {v("x"), 5, v("X"), api.ErrName},
		{v("x"), 1, v("y"), api.ErrUnknown}, {v("x"), -1, v("y"), api.ErrUnknown}, {sum(), 0, integer(), api.ErrForm}, {sum(), 4, integer(), api.OK},
		{deep, 0, sum(), api.ErrDeep}, {deep, 0, v("y"), api.OK}, {wide, 0, wide, api.ErrMany}, {wide, 2500, wide, api.OK},
		{raw(api.SAssign, "", v("x"), v("y")), 0, number(1), api.ErrForm},
	} {
		if s, e := Replace(c.t, c.node, c.by); e != c.want || e != api.OK && s != nil {
			t.Errorf("case %d: %d nodes, %d, want %d", i, len(s), e, c.want)
		}
	}
	for _, node := range []int{-1, 5, 1 << 50} {
		s, e1 := Sub(sum(), node)
		l, e2 := Kids(sum(), node)
		n, e3 := Parent(sum(), node)
		if s != nil || l != nil || n != 0 || e1 != api.ErrUnknown || e2 != api.ErrUnknown || e3 != api.ErrUnknown {
			t.Errorf("node %d: %d, %d, %d", node, e1, e2, e3)
		}
	}
	_, e1 := Sub(v("X"), 7)
	_, e2 := Kids(nil, 7)
	_, e3 := Parent(api.Tree{v("x")[0], v("x")[0]}, 7)
	if e1 != api.ErrName || e2 != api.ErrEmpty || e3 != api.ErrForm {
		t.Errorf("no trees: %d, %d, %d", e1, e2, e3)
	}
}

func TestParent(t *testing.T) { // P2.2
	for node, want := range []int{4, 3, 3, 4, -1} {
		if n, e := Parent(sum(), node); n != want || e != api.OK {
			t.Errorf("Parent of %d: %d, %d", node, n, e)
		}
	}
}

// TestTakingApart takes random trees apart and puts them together.
func TestTakingApart(t *testing.T) { // P2.2, P2.5
	g := generator{rand.New(rand.NewSource(2))}
	for range 1500 {
		s := g.any()
		i := g.Intn(len(s))
		sub, e := Sub(s, i)
		if _, f := Check(sub); e != api.OK || f != api.OK {
			t.Fatalf("Sub: %d, %d", e, f)
		}
		if same, e := Replace(s, i, sub); e != api.OK || !equal(same, s) {
			t.Fatalf("Replace by itself: %d", e)
		}
		kids, e := Kids(s, i)
		if e != api.OK || len(kids) != len(s[i].Kids) {
			t.Fatalf("Kids: %d", e)
		}
		made, e := Make(s[i].Op, s[i].Text, kids)
		if e != api.OK || !Same(made, sub) {
			t.Fatalf("Make of Kids: %d", e)
		}
		depth := 0
		for k, kid := range kids {
			d, _ := Depth(kid)
			depth = max(depth, d)
			if n, e := Parent(s, s[i].Kids[k]); n != i || e != api.OK {
				t.Fatalf("Parent: %d, %d", n, e)
			}
		}
		if d, e := Depth(sub); d != depth+1 || e != api.OK {
			t.Fatalf("Depth: %d, %d", d, e)
		}
	}
}
