package term

import (
	"math/rand"
	"slices"
	"strconv"
	"strings"
	"testing"

	"entail/api"
	"entail/list"
)

// nested is a term with its subterms in it, for which the words of the chapter can be followed one by one.
type nested struct {
	node api.Term
	kids []nested
}

// nest returns the nested form of a subterm.
func nest(t api.Terms, node int) nested {
	return nested{t[node], list.Transform(t[node].Kids, func(kid int) nested { return nest(t, kid) })}
}

func (x nested) flat() api.Terms {
	return joined(x.node, list.Transform(x.kids, nested.flat)...)
}

func (x nested) size() int {
	size := 1
	for _, kid := range x.kids {
		size += kid.size()
	}
	return size
}

func (x nested) is(op int) bool { return x.node.Op == op }

func (x nested) same(y nested) bool { return Same(x.flat(), y.flat()) }

func truthTerm(b bool) nested { return nested{node: Bool(b)[0]} }

func connected(op int, kids ...nested) nested {
	return nested{api.Term{Op: op, Sort: "Bool"}, kids}
}

// simple follows the words about simplification.
func (x nested) simple() nested {
	x.kids = list.Transform(x.kids, nested.simple)
	switch x.node.Op {
	case api.LNot:
		return x.kids[0].opposite()
	case api.LAnd, api.LOr:
		return x.simpleJunction(x.is(api.LAnd))
	case api.LImp, api.LIff:
		return x.simpleArrow(x.is(api.LIff))
	case api.LIte:
		switch c, a, b := x.kids[0], x.kids[1], x.kids[2]; {
		case c.is(api.LTrue) || !c.is(api.LFalse) && a.same(b):
			return a
		case c.is(api.LFalse):
			return b
		}
	case api.LForall, api.LExists:
		if body := x.kids[len(x.kids)-1]; body.is(api.LTrue) || body.is(api.LFalse) {
			return body
		}
	case api.LEq:
		if x.kids[0].same(x.kids[1]) {
			return truthTerm(true)
		}
	}
	if len(x.kids) == 2 && x.node.Op >= api.LEq && x.node.Op <= api.LLe && x.kids[0].is(api.LNum) && x.kids[1].is(api.LNum) {
		return x.calculated()
	}
	return x
}

func (x nested) opposite() nested {
	switch x.node.Op {
	case api.LTrue, api.LFalse:
		return truthTerm(x.is(api.LFalse))
	case api.LNot:
		return x.kids[0]
	}
	return connected(api.LNot, x)
}

func (x nested) simpleJunction(and bool) nested {
	var rest []nested
	for _, kid := range x.kids {
		switch {
		case kid.same(truthTerm(!and)):
			return kid
		case !kid.same(truthTerm(and)):
			rest = append(rest, kid)
		}
	}
	switch len(rest) {
	case 0:
		return truthTerm(and)
	case 1:
		return rest[0]
	}
	return nested{x.node, rest}
}

func (x nested) simpleArrow(both bool) nested {
	a, b := x.kids[0], x.kids[1]
	switch {
	case a.is(api.LTrue):
		return b
	case both && b.is(api.LTrue):
		return a
	case both && a.is(api.LFalse):
		return b.opposite()
	case !both && (a.is(api.LFalse) || b.is(api.LTrue)):
		return truthTerm(true)
	case b.is(api.LFalse):
		return a.opposite()
	case both && a.same(b):
		return truthTerm(true)
	}
	return x
}

// calculated computes with two small numerals.
func (x nested) calculated() nested {
	var over, under [2]int
	real := false
	for i, kid := range x.kids {
		p, q, found := strings.Cut(kid.node.Name, "/")
		over[i], _ = strconv.Atoi(p)
		under[i] = 1
		if found {
			under[i], _ = strconv.Atoi(q)
			real = true
		}
	}
	left, right, below := over[0]*under[1], over[1]*under[0], under[0]*under[1]
	switch x.node.Op {
	case api.LEq:
		return truthTerm(false)
	case api.LLt:
		return truthTerm(left < right)
	case api.LLe:
		return truthTerm(left <= right)
	}
	result := [...]int{left + right, left - right, over[0] * over[1]}[x.node.Op-api.LAdd]
	if !real {
		return nested{node: numeral(strconv.Itoa(result))[0]}
	}
	for d := below; d > 1; d-- {
		if result%d == 0 && below%d == 0 {
			result, below = result/d, below/d
		}
	}
	return nested{node: numeral(strconv.Itoa(result) + "/" + strconv.Itoa(below))[0]}
}

// normal follows the table of negation normal forms.
func (x nested) normal(positive bool) nested {
	op := func(op int) int {
		if positive {
			return op
		}
		return map[int]int{api.LAnd: api.LOr, api.LOr: api.LAnd, api.LForall: api.LExists, api.LExists: api.LForall}[op]
	}
	kid := func(i int, positive bool) nested { return x.kids[i].normal(positive) }
	switch x.node.Op {
	case api.LTrue, api.LFalse:
		return truthTerm(x.is(api.LTrue) == positive)
	case api.LNot:
		return kid(0, !positive)
	case api.LAnd, api.LOr:
		return connected(op(x.node.Op), list.Transform(x.kids, func(a nested) nested { return a.normal(positive) })...)
	case api.LImp:
		return connected(op(api.LOr), kid(0, !positive), kid(1, positive))
	case api.LForall, api.LExists:
		root := x.node
		root.Op = op(root.Op)
		last := len(x.kids) - 1
		return nested{root, append(slices.Clone(x.kids[:last]), kid(last, positive))}
	}
	switch {
	case x.is(api.LIff) || x.is(api.LEq) && x.kids[0].node.Sort == "Bool" && x.kids[1].node.Sort == "Bool":
		return connected(api.LAnd, connected(api.LOr, kid(0, !positive), kid(1, true)), connected(api.LOr, kid(0, positive), kid(1, false)))
	case x.is(api.LIte) && x.node.Sort == "Bool":
		return connected(api.LAnd, connected(api.LOr, kid(0, false), kid(1, positive)), connected(api.LOr, kid(0, true), kid(2, positive)))
	case positive:
		return x
	}
	return connected(api.LNot, x)
}

// replaced puts a term in place of a variable; names of variables are different.
func (x nested) replaced(name string, by nested) nested {
	if x.is(api.LVar) && x.node.Name == name {
		return by
	}
	return nested{x.node, list.Transform(x.kids, func(kid nested) nested { return kid.replaced(name, by) })}
}

// skolem removes the existential quantifiers of a negation normal form; count is the number of functions before.
func (x nested) skolem(around []api.Bound, count *int) nested {
	last := len(x.kids) - 1
	kids := slices.Clone(x.kids)
	switch x.node.Op {
	case api.LAnd, api.LOr:
		return nested{x.node, list.Transform(kids, func(kid nested) nested { return kid.skolem(around, count) })}
	case api.LForall:
		kids[last] = kids[last].skolem(slices.Concat(around, x.node.Vars), count)
		return nested{x.node, kids}
	case api.LExists:
		body := kids[last].skolem(around, count)
		for _, v := range x.node.Vars {
			root := api.Term{Op: api.LApp, Sort: v.Sort, Name: "k" + strconv.Itoa(*count)}
			*count++
			body = body.replaced(v.Name, nested{root, list.Transform(around, func(u api.Bound) nested { return nested{node: Var(u.Name, u.Sort)[0]} })})
		}
		return body
	}
	return x
}

// repeats reports whether a quantifier has a variable with the name of one around it.
func (x nested) repeats(around []string) bool {
	inside := slices.Clone(around)
	for _, v := range x.node.Vars {
		if slices.Contains(around, v.Name) {
			return true
		}
		inside = append(inside, v.Name)
	}
	return slices.ContainsFunc(x.kids, func(kid nested) bool { return kid.repeats(inside) })
}

// anything makes a term whose sorts need not fit together.
func (m maker) anything(depth int) nested {
	sort := []string{"Bool", "Bool", "Int", "Real", "E"}[m.Intn(5)]
	op := m.Intn(api.LTrigger)
	if depth == 0 {
		op = m.Intn(api.LApp + 1)
	}
	x := nested{node: api.Term{Op: op, Sort: "Bool"}}
	number := [...]int{api.LNot: 1, api.LImp: 2, api.LIff: 2, api.LIte: 3, api.LEq: 2, api.LAdd: 2, api.LSub: 2, api.LMul: 2, api.LLt: 2, api.LLe: 2, api.LForall: 1, api.LExists: 1}[op]
	switch op {
	case api.LNum:
		return nested{node: numeral([]string{"0", "1", "-2", "3", "0/1", "1/2", "-2/3", "3/1"}[m.Intn(8)])[0]}
	case api.LVar:
		return nested{node: Var([]string{"x", "y", "z"}[m.Intn(3)], sort)[0]}
	case api.LApp:
		x.node.Name, x.node.Sort = []string{"f", "g"}[m.Intn(2)], sort
		number = min(depth, m.Intn(3))
	case api.LAnd, api.LOr:
		number = m.Intn(4)
	case api.LIte:
		x.node.Sort = sort
	case api.LAdd, api.LSub, api.LMul:
		x.node.Sort = []string{"Int", "Real"}[m.Intn(2)]
	case api.LForall, api.LExists:
		for i := range 1 + m.Intn(2) {
			x.node.Vars = append(x.node.Vars, api.Bound{Name: []string{"x", "y", "z", "v", "w", "u"}[m.Intn(3)+3*i], Sort: sort})
		}
		for range m.Intn(2) {
			x.kids = append(x.kids, nested{api.Term{Op: api.LTrigger}, []nested{m.anything(depth - 1)}})
		}
	}
	for range number {
		x.kids = append(x.kids, m.anything(depth-1))
	}
	return x
}

func TestTermsOfAnySorts(t *testing.T) { // P9.4
	m := maker{rand.New(rand.NewSource(6))}
	counts := map[api.Errno]int{}
	for range 20000 {
		x := m.anything(1 + m.Intn(4))
		f := x.flat()
		if e := CheckForm(f); e != api.OK {
			t.Fatalf("CheckForm: %d", e)
		}
		if got, e := Simplify(f); e != api.OK || !Same(got, x.simple().flat()) {
			t.Fatalf("Simplify(%s): %v, %d, want %s", text(t, f), got, e, text(t, x.simple().flat()))
		}
		normal, count := x.normal(true), 0
		size := normal.size()
		want, e := normal.flat(), api.OK
		switch {
		case x.node.Sort != "Bool":
			want, e = nil, api.ErrSort
		case size > api.MaxTerm:
			want, e = nil, api.ErrLarge
		}
		if got, f := NNF(f); f != e || !Same(got, want) {
			t.Fatalf("NNF: %v, %d, want %v, %d", got, f, want, e)
		}
		if e == api.OK && normal.repeats(nil) {
			e = api.ErrTwice
		}
		want = nil
		if e == api.OK {
			want = normal.skolem(nil, &count).flat()
		}
		if len(want) > api.MaxTerm {
			want, e, count = nil, api.ErrLarge, 0
		}
		counts[e]++
		if got, funs, f := Skolem(f, "k"); f != e || len(funs) != count || !Same(got, want) {
			t.Fatalf("Skolem: %v, %d, want %v, %d", got, f, want, e)
		}
	}
	if counts[api.OK] < 5000 || counts[api.ErrTwice] < 100 {
		t.Errorf("%v", counts)
	}
}
