package pattern

import (
	"math/rand"
	"slices"
	"strconv"
	"strings"
	"testing"

	"entail/api"
	"entail/value"
)

const randomDeclarations = "datatype L = Nil | Cons(head: int, tail: L) datatype P = Two(a: bool, b: C) | One(c: bv2) | No datatype C = Red | Green datatype B<T> = Full(x: T, y: bool) | Empty datatype V = Wide(a: bv5, r: real, s: seq<int>)"

// maker makes random patterns and values of types.
type maker struct {
	*rand.Rand
	names int
}

// constructors are the constructors of the types of randomDeclarations with the types of their fields.
func constructors(typ string) map[string][]string {
	switch typ {
	case "L":
		return map[string][]string{"Nil": nil, "Cons": {"int", "L"}}
	case "P":
		return map[string][]string{"Two": {"bool", "C"}, "One": {"bv2"}, "No": nil}
	case "C":
		return map[string][]string{"Red": nil, "Green": nil}
	case "B<L>":
		return map[string][]string{"Full": {"L", "bool"}, "Empty": nil}
	case "B<B<L>>":
		return map[string][]string{"Full": {"B<L>", "bool"}, "Empty": nil}
	case "V":
		return map[string][]string{"Wide": {"bv5", "real", "seq<int>"}}
	}
	return nil
}

// literals are the four literals that patterns have, and others that stand for all further values of the type.
func literals(typ string) []string {
	switch typ {
	case "int":
		return []string{"0", "1", "-1", "2", "3", "7"}
	case "bool":
		return []string{"false", "true"}
	case "bv2":
		return []string{"0", "1", "2", "3"}
	case "bv5":
		return []string{"0", "1", "2", "31", "3", "9"}
	}
	return nil
}

func names(typ string) []string {
	var l []string
	for name := range constructors(typ) {
		l = append(l, name)
	}
	slices.Sort(l)
	return l
}

// pattern returns a pattern that is right for a type.
func (m *maker) pattern(typ string, depth int) string {
	l := literals(typ)
	switch made := names(typ); {
	case depth > 0 && len(made) > 0 && m.Intn(4) > 0:
		name := made[m.Intn(len(made))]
		var parts []string
		for _, f := range constructors(typ)[name] {
			parts = append(parts, m.pattern(f, depth-1))
		}
		if len(parts) == 0 {
			return name
		}
		return name + "(" + strings.Join(parts, ", ") + ")"
	case len(l) > 0 && m.Intn(2) > 0:
		return l[m.Intn(min(len(l), 4))]
	case m.Intn(3) == 0:
		m.names++
		return "x" + strconv.Itoa(m.names)
	}
	return "_"
}

// values are strings of values of a type, all that patterns of a depth can tell from each other among them.
func values(typ string, depth int) []string {
	var out []string
	switch typ {
	case "real":
		return []string{"1/2"}
	case "seq<int>":
		return []string{"[]"}
	}
	for _, l := range literals(typ) {
		if width, is := strings.CutPrefix(typ, "bv"); is {
			l += "bv" + width
		}
		out = append(out, l)
	}
	for _, name := range names(typ) {
		fields := constructors(typ)[name]
		if depth == 0 && len(fields) > 0 {
			continue
		}
		lists := []string{""}
		for i, f := range fields {
			var longer []string
			for _, before := range lists {
				for _, v := range values(f, depth-1) {
					if i > 0 {
						v = ", " + v
					}
					longer = append(longer, before+v)
				}
			}
			lists = longer
		}
		for _, l := range lists {
			out = append(out, name+"("+l+")")
		}
	}
	return out
}

// valuesOf returns the values of a type.
func valuesOf(t *testing.T, typ string) []api.Value {
	var l []api.Value
	for _, s := range values(typ, 3) {
		v, _, e := value.ParseText(s)
		if e != api.OK {
			t.Fatal(s, e)
		}
		l = append(l, v)
	}
	return l
}

func matches(p api.Tree, v api.Value) bool {
	_, is, _ := Match(p, v)
	return is
}

// matchesNone reports whether a value matches no pattern of a list.
func matchesNone(l []api.Tree, v api.Value) bool {
	n, _ := First(l, v)
	return n < 0
}

func TestConsequences(t *testing.T) { // P10.1 to P10.4
	p := program(t, randomDeclarations)
	types := []string{"L", "P", "C", "B<L>", "B<B<L>>", "V", "int", "bool", "bv2", "bv5", "real"}
	for _, typ := range types {
		all := valuesOf(t, typ)
		for seed := range int64(60) {
			m := &maker{Rand: rand.New(rand.NewSource(seed))}
			var l []api.Tree
			for range m.Intn(7) {
				l = append(l, pat(t, m.pattern(typ, 2)))
			}
			checkMissing(t, p, typ, l, all)
			checkRedundant(t, p, typ, l, all)
			checkCompiled(t, p, typ, l, all)
			extra := pat(t, m.pattern(typ, 2))
			useful, e := Useful(p, typ, l, extra)
			want := slices.ContainsFunc(all, func(v api.Value) bool { return matches(extra, v) && matchesNone(l, v) })
			if useful != want || e != api.OK {
				t.Errorf("Useful of %s behind %s: %v, %d", text(extra), texts(l), useful, e)
			}
		}
	}
}

func texts(l []api.Tree) string {
	var out []string
	for _, p := range l {
		out = append(out, text(p))
	}
	return strings.Join(out, "; ")
}

func checkMissing(t *testing.T, p api.Tree, typ string, l []api.Tree, all []api.Value) {
	m, is, e := Missing(p, typ, l)
	if e != api.OK {
		t.Errorf("Missing of %s: %d", texts(l), e)
	}
	for _, v := range all {
		none := matchesNone(l, v)
		if !is && none {
			t.Errorf("Missing of %s: nothing, but %s matches none", texts(l), say(v))
		}
		if is && matches(m, v) && !none {
			t.Errorf("Missing of %s: %s, but %s matches one", texts(l), text(m), say(v))
		}
	}
	if !is {
		return
	}
	if _, _, e := Check(p, typ, m); e != api.OK || !slices.ContainsFunc(all, func(v api.Value) bool { return matches(m, v) }) {
		t.Errorf("Missing of %s: %s, %d", texts(l), text(m), e)
	}
	if useful, _ := Useful(p, typ, l, m); !useful {
		t.Errorf("Missing of %s: %s is not useful", texts(l), text(m))
	}
}

func checkRedundant(t *testing.T, p api.Tree, typ string, l []api.Tree, all []api.Value) {
	redundant, e := Redundant(p, typ, l)
	first := map[int]bool{}
	for _, v := range all {
		n, _ := First(l, v)
		first[n] = true
	}
	for i := range l {
		if slices.Contains(redundant, i) == first[i] {
			t.Errorf("Redundant of %s: %v", texts(l), redundant)
		}
	}
	if e != api.OK || !slices.IsSorted(redundant) {
		t.Errorf("Redundant of %s: %v, %d", texts(l), redundant, e)
	}
}

func checkCompiled(t *testing.T, p api.Tree, typ string, l []api.Tree, all []api.Value) {
	d, e := Compile(p, typ, l)
	if at, f := CheckTests(d); e != api.OK || f != api.OK {
		t.Errorf("Compile of %s: %d, %d at %d", texts(l), e, f, at)
		return
	}
	checkOnce(t, d, 0, nil)
	for _, v := range all {
		n, made, e := Run(d, v)
		if want, _ := First(l, v); n != want || e != api.OK {
			t.Errorf("Run of %s for %s: %d, %d, want %d", texts(l), say(v), n, e, want)
		}
		if made > len(d) {
			t.Errorf("Run of %s makes %d tests", texts(l), made)
		}
	}
}

// checkOnce checks that no part is asked twice on one way.
func checkOnce(t *testing.T, d []Test, at int, asked [][]int) {
	if d[at].Leaf {
		return
	}
	if slices.ContainsFunc(asked, func(path []int) bool { return slices.Equal(path, d[at].Path) }) {
		t.Errorf("the path %v is asked twice", d[at].Path)
	}
	asked = append(slices.Clip(asked), d[at].Path)
	for _, next := range d[at].next() {
		checkOnce(t, d, next, asked)
	}
}
