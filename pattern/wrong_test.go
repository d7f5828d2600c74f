package pattern

import (
	"math/rand"
	"slices"
	"strconv"
	"strings"
	"testing"

	"entail/api"
)

// rarely is true one time in some.
func (m *maker) rarely(n int) bool { return m.Intn(n) == 0 }

// careless returns a pattern that is right for a type in most places, and wrong in others.
func (m *maker) careless(typ string, depth int) string {
	if m.rarely(12) {
		typ = []string{"L", "P", "C", "B<L>", "V", "int", "bool", "bv2", "bv5", "real"}[m.Intn(10)]
	}
	made := names(typ)
	switch simple := append(literals(typ), "_", "x"+strconv.Itoa(m.Intn(6))); {
	case m.rarely(12):
		return strconv.Itoa(m.Intn(40) - 2)
	case depth == 0 || len(made) == 0 || m.rarely(5):
		return simple[m.Intn(len(simple))]
	case m.rarely(15):
		made = []string{"Nowhere"}
	}
	name := made[m.Intn(len(made))]
	fields := slices.Clone(constructors(typ)[name])
	if m.rarely(8) {
		fields = append(fields, "int", "L")[m.Intn(3):]
		fields = fields[:m.Intn(len(fields)+1)]
	}
	var parts []string
	for _, f := range fields {
		parts = append(parts, m.careless(f, depth-1))
	}
	return name + "(" + strings.Join(parts, ", ") + ")"
}

// looked is what the chapter says of the nodes of a pattern that are looked at.
type looked struct {
	pattern   api.Tree
	wrong     map[int]api.Errno
	variables []int
}

func (l *looked) at(node int, typ string) {
	n := l.pattern[node]
	switch fields, found := constructors(typ)[n.Text]; {
	case n.Op == api.PVar:
		l.variables = append(l.variables, node)
	case n.Op == api.PLit:
		if e := l.literal(n.Kids[0], typ); e != api.OK {
			l.wrong[node] = e
		}
	case n.Op != api.PCons:
	case !found:
		l.wrong[node] = api.ErrUnknown
	case len(fields) != len(n.Kids):
		l.wrong[node] = api.ErrArgs
	default:
		for i, kid := range n.Kids {
			l.at(kid, fields[i])
		}
	}
}

func (l *looked) literal(node int, typ string) api.Errno {
	n, sign := l.pattern[node], 1
	if n.Op == api.ENeg {
		n, sign = l.pattern[n.Kids[0]], -1
	}
	number, _ := strconv.Atoi(n.Text)
	greatest, isBits := map[string]int{"bv2": 3, "bv5": 31}[typ]
	switch {
	case n.Op == api.EBool && typ != "bool", n.Op == api.EInt && typ != "int" && !isBits:
		return api.ErrType
	case isBits && (sign*number < 0 || number > greatest):
		return api.ErrRange
	}
	return api.OK
}

// first returns the node with the least index that is wrong, or 0, with its error.
func (l *looked) first() (int, api.Errno) {
	for i, node := range l.variables {
		if slices.ContainsFunc(l.variables[:i], func(o int) bool { return l.pattern[o].Text == l.pattern[node].Text }) {
			l.wrong[node] = api.ErrTwice
		}
	}
	for node := range l.pattern {
		if e, is := l.wrong[node]; is {
			return node, e
		}
	}
	return 0, api.OK
}

// TestWrongPatterns compares the errors of random patterns with a second reading of the chapter.
func TestWrongPatterns(t *testing.T) { // P10.1, P10.2, P10.3
	p := program(t, randomDeclarations)
	m := &maker{Rand: rand.New(rand.NewSource(20))}
	seen := map[api.Errno]int{}
	for range 4000 {
		typ := []string{"L", "P", "B<L>", "B<B<L>>", "V"}[m.Intn(5)]
		one := pat(t, m.careless(typ, 3))
		l := looked{pattern: one, wrong: map[int]api.Errno{}}
		l.at(len(one)-1, typ)
		node, want := l.first()
		seen[want]++
		vars, at, e := Check(p, typ, one)
		if at != node || e != want || e == api.OK && len(vars) != len(l.variables) || e != api.OK && len(vars) > 0 {
			t.Errorf("Check of %s for %s: %v, %d at %d, want %d at %d", text(one), typ, vars, e, at, want, node)
		}
		for name, ask := range asks() {
			if e, _ := ask(p, typ, []api.Tree{one}); e != want {
				t.Errorf("%s of %s for %s: %d, want %d", name, text(one), typ, e, want)
			}
		}
		if _, e := Useful(p, typ, nil, one); e != want {
			t.Errorf("Useful of %s for %s: %d, want %d", text(one), typ, e, want)
		}
	}
	for _, e := range []api.Errno{api.OK, api.ErrUnknown, api.ErrArgs, api.ErrType, api.ErrRange, api.ErrTwice} {
		if seen[e] < 20 {
			t.Errorf("the error %d comes %d times", e, seen[e])
		}
	}
}
