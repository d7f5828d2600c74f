package term

import (
	"math/rand"
	"slices"
	"strconv"
	"testing"

	"entail/api"
)

// world gives functions over the elements 0 and 1 of E, and over truth values, their values: what a function returns
// depends on its name and on its arguments.
type world struct {
	seed   int
	tables map[string]int // for some functions: the values for all arguments, as bits
}

// value returns the value of a function, 0 or 1.
func (w world) value(name string, args []int) int {
	at := 0
	for _, a := range args {
		at = 2*at + a
	}
	if bits, found := w.tables[name]; found {
		return bits >> at & 1
	}
	h := w.seed
	for _, c := range name {
		h = h*31 + int(c)
	}
	h = (h*1000003 + at*7919) ^ h>>5
	return h >> 3 & 1
}

// eval returns the value of a term: 0 or 1 for E and Bool, otherwise a number.
func (w world) eval(t api.Terms, node int, env map[string]int) int {
	n := t[node]
	kid := func(i int) int { return w.eval(t, n.Kids[i], env) }
	truth := func(b bool) int {
		if b {
			return 1
		}
		return 0
	}
	switch n.Op {
	case api.LTrue, api.LFalse:
		return truth(n.Op == api.LTrue)
	case api.LNum:
		k, _ := strconv.Atoi(n.Name)
		return k
	case api.LVar:
		return env[n.Name]
	case api.LApp:
		var args []int
		for i := range n.Kids {
			args = append(args, kid(i))
		}
		return w.value(n.Name, args)
	case api.LNot:
		return 1 - kid(0)
	case api.LAnd, api.LOr:
		for i := range n.Kids {
			if kid(i) == truth(n.Op == api.LOr) {
				return truth(n.Op == api.LOr)
			}
		}
		return truth(n.Op == api.LAnd)
	case api.LImp:
		return truth(kid(0) == 0 || kid(1) == 1)
	case api.LIff, api.LEq:
		return truth(kid(0) == kid(1))
	case api.LIte:
		if kid(0) == 1 {
			return kid(1)
		}
		return kid(2)
	case api.LAdd:
		return kid(0) + kid(1)
	case api.LSub:
		return kid(0) - kid(1)
	case api.LMul:
		return kid(0) * kid(1)
	case api.LLt:
		return truth(kid(0) < kid(1))
	case api.LLe:
		return truth(kid(0) <= kid(1))
	}
	return w.quantified(t, n, env)
}

// quantified evaluates a quantifier, whose variables are of E or Bool.
func (w world) quantified(t api.Terms, n api.Term, env map[string]int) int {
	inner := map[string]int{}
	for name, v := range env {
		inner[name] = v
	}
	for bits := range 1 << len(n.Vars) {
		for i, v := range n.Vars {
			inner[v.Name] = bits >> i & 1
		}
		if got := w.eval(t, n.Kids[len(n.Kids)-1], inner); (got == 1) == (n.Op == api.LExists) {
			return got
		}
	}
	if n.Op == api.LForall {
		return 1
	}
	return 0
}

func (w world) truth(t api.Terms, env map[string]int) int { return w.eval(t, len(t)-1, env) }

// maker makes random terms.
type maker struct{ *rand.Rand }

func (m maker) must(t api.Terms, e api.Errno) api.Terms {
	if e != api.OK {
		panic(e)
	}
	return t
}

// element makes a term of E.
func (m maker) element(depth int, scope []api.Bound) api.Terms {
	var own []api.Bound
	for _, v := range scope {
		if v.Sort == "E" {
			own = append(own, v)
		}
	}
	if depth == 0 || m.Intn(3) == 0 {
		if len(own) > 0 && m.Intn(4) > 0 {
			v := own[m.Intn(len(own))]
			return Var(v.Name, v.Sort)
		}
		return m.must(App(sig(), []string{"c", "d"}[m.Intn(2)]))
	}
	if m.Intn(4) == 0 {
		return m.must(Make(api.LIte, m.formula(depth-1, scope), m.element(depth-1, scope), m.element(depth-1, scope)))
	}
	return m.must(App(sig(), "f", m.element(depth-1, scope)))
}

// number makes a term of Int.
func (m maker) number(depth int) api.Terms {
	if depth == 0 || m.Intn(3) == 0 {
		return m.must(Num("Int", strconv.Itoa(m.Intn(7)-3)))
	}
	return m.must(Make(api.LAdd+m.Intn(3), m.number(depth-1), m.number(depth-1)))
}

// atom makes a formula that is not taken apart.
func (m maker) atom(depth int, scope []api.Bound) api.Terms {
	switch m.Intn(7) {
	case 0:
		return Bool(m.Intn(2) == 0)
	case 1:
		return m.must(Make(api.LEq, m.element(depth, scope), m.element(depth, scope)))
	case 2:
		return m.must(Make([]int{api.LLt, api.LLe, api.LEq}[m.Intn(3)], m.number(depth), m.number(depth)))
	case 3:
		return m.must(App(sig(), "q", m.element(depth, scope), m.element(depth, scope)))
	case 4:
		for _, v := range scope {
			if v.Sort == "Bool" && m.Intn(2) == 0 {
				return Var(v.Name, v.Sort)
			}
		}
	}
	return m.must(App(sig(), "p", m.element(depth, scope)))
}

// formula makes a formula with free variables of the scope.
func (m maker) formula(depth int, scope []api.Bound) api.Terms {
	next := func() api.Terms { return m.formula(depth-1, scope) }
	if depth == 0 {
		return m.atom(1, scope)
	}
	switch op := api.LNot + m.Intn(12); op {
	case api.LNot:
		return m.must(Make(op, next()))
	case api.LAnd, api.LOr:
		var kids []api.Terms
		for range m.Intn(4) {
			kids = append(kids, next())
		}
		return m.must(Make(op, kids...))
	case api.LImp, api.LIff, api.LEq:
		return m.must(Make(op, next(), next()))
	case api.LIte:
		return m.must(Make(op, next(), next(), next()))
	case api.LAdd:
		return m.atom(depth, scope)
	}
	return m.quantifier(depth, scope)
}

// quantifier makes a quantified formula, at times with triggers.
func (m maker) quantifier(depth int, scope []api.Bound) api.Terms {
	names := []string{"x", "y", "z", "y'", "x'", "y''"}
	m.Shuffle(len(names), func(i, k int) { names[i], names[k] = names[k], names[i] })
	var vars []api.Bound
	for i := range 1 + m.Intn(2) {
		vars = append(vars, api.Bound{Name: names[i], Sort: []string{"E", "E", "Bool"}[m.Intn(3)]})
	}
	inside := slices.Clone(vars)
	for _, v := range scope {
		if !hasName(vars, v.Name) {
			inside = append(inside, v)
		}
	}
	var triggers [][]api.Terms
	for range m.Intn(2) {
		triggers = append(triggers, []api.Terms{m.element(1, inside)})
	}
	return m.must(Quantify(api.LForall+m.Intn(2), vars, triggers, m.formula(depth-1, inside)))
}

// openVars are the free variables of random terms.
var openVars = []api.Bound{{Name: "x", Sort: "E"}, {Name: "y", Sort: "E"}, {Name: "z", Sort: "E"}, {Name: "y'", Sort: "E"}, {Name: "u", Sort: "Bool"}}

// envs returns values for the free variables.
func envs() []map[string]int {
	var l []map[string]int
	for bits := range 1 << len(openVars) {
		env := map[string]int{}
		for i, v := range openVars {
			env[v.Name] = bits >> i & 1
		}
		l = append(l, env)
	}
	return l
}

func TestRandomTexts(t *testing.T) { // P9.5, P9.6
	m := maker{rand.New(rand.NewSource(1))}
	for range 800 {
		f := m.formula(3, openVars)
		if sort, e := Check(sig(), openVars, f); sort != "Bool" || e != api.OK {
			t.Fatalf("Check: %q, %d", sort, e)
		}
		s := text(t, f)
		back, at, e := Parse(sig(), openVars, s)
		if !Same(back, f) || e != api.OK || at != 0 {
			t.Fatalf("%s: %d at %d", s, e, at)
		}
	}
}

// isNormal reports whether negations are in front of atoms only, and no other connectives are left outside of atoms.
func isNormal(f api.Terms, node int) bool {
	n := f[node]
	isAtom := func(n api.Term) bool {
		return n.Op == api.LVar || n.Op == api.LApp || n.Op == api.LLt || n.Op == api.LLe || n.Op == api.LEq && f[n.Kids[0]].Sort != "Bool"
	}
	switch n.Op {
	case api.LNot:
		return isAtom(f[n.Kids[0]])
	case api.LAnd, api.LOr:
		return !slices.ContainsFunc(n.Kids, func(kid int) bool { return !isNormal(f, kid) })
	case api.LForall, api.LExists:
		return isNormal(f, n.Kids[len(n.Kids)-1])
	}
	return isAtom(n) || n.Op == api.LTrue || n.Op == api.LFalse
}

// fewerFree reports whether all free variables of a term are free in another one.
func fewerFree(t *testing.T, a, b api.Terms) bool {
	l, e := Free(a)
	more, f := Free(b)
	if e != api.OK || f != api.OK {
		t.Fatalf("Free: %d, %d", e, f)
	}
	return !slices.ContainsFunc(l, func(v api.Bound) bool { return !slices.Contains(more, v) })
}

func TestRandomForms(t *testing.T) { // P9.4, P9.6
	m := maker{rand.New(rand.NewSource(2))}
	large := 0
	for range 1500 {
		f := m.formula(1+m.Intn(4), openVars)
		normal, e := NNF(f)
		if e == api.ErrLarge {
			large++
			continue
		}
		simple, g := Simplify(f)
		if e != api.OK || g != api.OK {
			t.Fatalf("%s: %d, %d", text(t, f), e, g)
		}
		if !isNormal(normal, len(normal)-1) || !fewerFree(t, normal, f) || !fewerFree(t, simple, f) {
			t.Fatalf("%s: %s, %s", text(t, f), text(t, normal), text(t, simple))
		}
		for _, changed := range []api.Terms{normal, simple} {
			if sort, e := Check(sig(), openVars, changed); sort != "Bool" || e != api.OK {
				t.Fatalf("%s: %q, %d", text(t, changed), sort, e)
			}
		}
		if again, _ := NNF(normal); !Same(again, normal) {
			t.Fatalf("%s: %s", text(t, normal), text(t, again))
		}
		if again, _ := Simplify(simple); !Same(again, simple) {
			t.Fatalf("%s: %s", text(t, simple), text(t, again))
		}
		w := world{seed: m.Int()}
		for _, env := range envs() {
			if want := w.truth(f, env); w.truth(normal, env) != want || w.truth(simple, env) != want {
				t.Fatalf("%s: %s, %s", text(t, f), text(t, normal), text(t, simple))
			}
		}
	}
	if large > 700 {
		t.Errorf("%d large forms", large)
	}
}

func TestRandomSkolem(t *testing.T) { // P9.4
	m := maker{rand.New(rand.NewSource(3))}
	checked := 0
	for checked < 250 {
		f := m.formula(1+m.Intn(3), nil)
		out, funs, e := Skolem(f, "k")
		normal, g := NNF(f)
		if e == api.ErrTwice || g != api.OK {
			continue
		}
		if e != api.OK || hasExists(out, len(out)-1) {
			t.Fatalf("%s: %d, %s", text(t, f), e, text(t, out))
		}
		larger := sig()
		larger.Funs = append(larger.Funs, funs...)
		if sort, e := Check(larger, nil, out); sort != "Bool" || e != api.OK {
			t.Fatalf("%s: %q, %d", text(t, out), sort, e)
		}
		bits := 0
		for _, k := range funs {
			bits += 1 << len(k.Args)
		}
		if bits > 12 {
			continue
		}
		checked++
		w := world{seed: m.Int(), tables: map[string]int{}}
		want := w.truth(normal, map[string]int{})
		found := 0
		for choice := range 1 << bits {
			rest := choice
			for _, k := range funs {
				w.tables[k.Name] = rest & (1<<(1<<len(k.Args)) - 1)
				rest >>= 1 << len(k.Args)
			}
			if w.truth(out, map[string]int{}) == 1 {
				found = 1
				break
			}
		}
		if found != want {
			t.Fatalf("%s: %s", text(t, f), text(t, out))
		}
	}
}

// hasExists reports whether there is an existential quantifier outside of atoms.
func hasExists(f api.Terms, node int) bool {
	n := f[node]
	switch n.Op {
	case api.LExists:
		return true
	case api.LForall:
		return hasExists(f, n.Kids[len(n.Kids)-1])
	case api.LAnd, api.LOr:
		return slices.ContainsFunc(n.Kids, func(kid int) bool { return hasExists(f, kid) })
	}
	return false
}

func TestRandomSubst(t *testing.T) { // P9.3, P9.6
	m := maker{rand.New(rand.NewSource(4))}
	for range 1500 {
		f := m.formula(1+m.Intn(3), openVars)
		var l []Binding
		for _, name := range []string{"x", "y", "y'"} {
			if m.Intn(3) > 0 {
				l = append(l, Binding{name, m.element(2, openVars)})
			}
		}
		out, e := Subst(f, l)
		if e != api.OK {
			t.Fatalf("%s: %d", text(t, f), e)
		}
		if sort, e := Check(sig(), openVars, out); sort != "Bool" || e != api.OK {
			t.Fatalf("%s: %q, %d", text(t, out), sort, e)
		}
		w := world{seed: m.Int()}
		for _, env := range envs() {
			inner := map[string]int{}
			for name, v := range env {
				inner[name] = v
			}
			for _, b := range l {
				inner[b.Name] = w.truth(b.Term, env)
			}
			if w.truth(f, inner) != w.truth(out, env) {
				t.Fatalf("%s with %v: %s", text(t, f), l, text(t, out))
			}
		}
		checkFree(t, f, out, l)
		renamed := m.renamed(f)
		alike, e := Alpha(f, renamed)
		if !alike || e != api.OK {
			t.Fatalf("%s and %s are not alike", text(t, f), text(t, renamed))
		}
		other, _ := Subst(renamed, l)
		if alike, _ := Alpha(out, other); !alike {
			t.Fatalf("%s and %s are not alike", text(t, out), text(t, other))
		}
		for _, env := range envs() {
			if same, _ := Alpha(f, out); same && w.truth(f, env) != w.truth(out, env) {
				t.Fatalf("%s and %s are alike", text(t, f), text(t, out))
			}
		}
	}
}

// checkFree checks that the free variables of a result are those that were not replaced, and those of the terms.
func checkFree(t *testing.T, f, out api.Terms, l []Binding) {
	t.Helper()
	free, _ := Free(f)
	want := map[string]bool{}
	for _, v := range free {
		i := slices.IndexFunc(l, func(b Binding) bool { return b.Name == v.Name })
		if i < 0 {
			want[v.Name] = true
			continue
		}
		more, _ := Free(l[i].Term)
		for _, v := range more {
			want[v.Name] = true
		}
	}
	got, _ := Free(out)
	if len(got) != len(want) || slices.ContainsFunc(got, func(v api.Bound) bool { return !want[v.Name] }) {
		t.Fatalf("%s: the free variables %v, want %v", text(t, out), got, want)
	}
}

// renamed returns a term whose bound variables have other names.
func (m maker) renamed(f api.Terms) api.Terms {
	out := slices.Clone(f)
	for p := range places(f) {
		if p.Op == api.LVar {
			if by := p.owner(f); by != nobody {
				out[p.index].Name = "b" + strconv.Itoa(by.quantifier) + "_" + strconv.Itoa(by.place)
			}
		}
		out[p.index].Vars = slices.Clone(p.Vars)
		for i := range p.Vars {
			out[p.index].Vars[i].Name = "b" + strconv.Itoa(p.index) + "_" + strconv.Itoa(i)
		}
	}
	return out
}

func TestDamagedTerms(t *testing.T) { // P1
	m := maker{rand.New(rand.NewSource(5))}
	right := 0
	for range 5000 {
		f := m.formula(2, openVars)
		for range 1 + m.Intn(3) {
			n := &f[m.Intn(len(f))]
			switch m.Intn(5) {
			case 0:
				n.Op = m.Intn(api.TermOps+2) - 1
			case 1:
				n.Sort = []string{"", "Bool", "Int", "E", "Real", "F"}[m.Intn(6)]
			case 2:
				n.Name = []string{"", "x", "f", "1", "1/2", " ", "p"}[m.Intn(7)]
			case 3:
				n.Kids = append(slices.Clone(n.Kids), m.Intn(len(f)+2)-1)
			case 4:
				n.Vars = append(slices.Clone(n.Vars), openVars[m.Intn(3)])
			}
		}
		if CheckForm(f) == api.OK {
			right++
		}
		Check(sig(), openVars, f)
		NNF(f)
		Skolem(f, "k")
		Simplify(f)
		Print(f)
		Free(f)
		Subst(f, []Binding{{"x", f}, {"y", Var("x", "E")}})
		Alpha(f, f)
		Same(f, f)
		Sub(f, m.Intn(len(f)))
		Make(api.LIte, f, f, f)
		App(sig(), "p", f)
		Quantify(api.LForall, openVars, [][]api.Terms{{f}}, f)
	}
	if right < 100 {
		t.Errorf("%d terms that have their form", right)
	}
}
