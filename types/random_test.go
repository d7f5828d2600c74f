package types

import (
	"math/rand"
	"strings"
	"testing"

	"entail/api"
	"entail/parse"
)

// maker makes random types and programs.
type maker struct{ *rand.Rand }

func (m maker) pick(l ...string) string { return l[m.Intn(len(l))] }

// typ makes a type, which need not be well-formed.
func (m maker) typ(depth int) string {
	if depth > 0 {
		switch m.Intn(6) {
		case 0:
			return m.pick("seq", "set", "multiset", "array") + "<" + m.typ(depth-1) + ">"
		case 1:
			return "map<" + m.typ(depth-1) + "," + m.typ(depth-1) + ">"
		case 2:
			return m.pick("D", "E", "M::D") + "<" + m.typ(depth-1) + ">"
		case 3:
			return m.pick("E", "P") + "<" + m.typ(depth-1) + "," + m.typ(depth-1) + ">"
		}
	}
	return m.pick("bool", "int", "bv3", "T", "U", "S", "R", "Q", "C", "D", "A", "M::D")
}

// program makes a flat program with datatypes D, E and P, subset types S, R and Q, and a class C.
func (m maker) program() string {
	fields := func() string {
		var l []string
		for range m.Intn(3) {
			l = append(l, "f: "+m.typ(2))
		}
		return "(" + strings.Join(l, ", ") + ")"
	}
	text := ""
	for _, head := range []string{"D<T>", "E<T, U>", "P<A, B>", "M::D<T>"} {
		text += "datatype " + head + " = A" + fields()
		for range m.Intn(3) {
			text += " | B" + fields()
		}
		text += " "
	}
	for _, name := range []string{"S", "R", "Q"} {
		text += "type " + name + " = x: " + m.pick("int", "S", "R", m.typ(2), m.typ(1)) + " | true witness 0 "
	}
	return text + "class C { var f: " + m.typ(2) + "; }"
}

// TestRandomPrograms asks for types of programs that need not be well-formed.
func TestRandomPrograms(t *testing.T) { // P5.2, P5.3, P5.4
	m := maker{rand.New(rand.NewSource(3))}
	counts := map[api.Errno]int{}
	for range 400 {
		p := flat(t, m.program())
		for range 10 {
			s := m.typ(3)
			checked := Check(p, s, nil)
			base, e := Base(p, s)
			if e == api.OK {
				if again, f := Base(p, base); again != base || f != api.OK {
					t.Fatalf("Base(%q): %q, %q, %d", s, base, again, f)
				}
				if tr, _ := Tree(base); strings.ContainsAny(textOfNames(tr), "SRQ") {
					t.Fatalf("Base(%q): %q", s, base)
				}
			}
			is, f := Inhabited(p, s, nil)
			d, g := Default(p, s)
			counts[g]++
			if checked != api.OK && (f != checked || g != checked) || checked == api.OK && f == api.OK && e != api.OK || is && f != api.OK {
				t.Fatalf("%q: %d, %d, %v, %d, %d", s, checked, e, is, f, g)
			}
			if f == api.OK && (is != (len(d) > 0) || is == (g == api.ErrEmpty)) {
				t.Fatalf("Default(%q): %d nodes, %d, Inhabited %v", s, len(d), g, is)
			}
			if finite, h := Finite(p, s); h != f || finite && !is {
				t.Fatalf("Finite(%q): %v, %d, Inhabited %v, %d", s, finite, h, is, f)
			}
			Constructors(p, s)
			Fields(p, s)
			Member(p, s, "f")
		}
	}
	for _, e := range []api.Errno{api.OK, api.ErrEmpty, api.ErrUnknown, api.ErrArgs, api.ErrCycle} {
		if counts[e] == 0 {
			t.Errorf("no default expression with the error %d", e)
		}
	}
}

// textOfNames joins the names in a type.
func textOfNames(t api.Tree) string {
	text := ""
	for _, n := range t {
		text += n.Text
	}
	return text
}

// TestDamagedPrograms changes nodes of programs: whatever is asked of them, there is an answer.
func TestDamagedPrograms(t *testing.T) { // P1
	m := maker{rand.New(rand.NewSource(4))}
	for range 300 {
		p, _, e := parse.Program(m.program())
		if e != api.OK {
			t.Fatal(e)
		}
		for range 1 + m.Intn(2) {
			n := &p[m.Intn(len(p))]
			switch m.Intn(4) {
			case 0:
				n.Op = m.Intn(api.Ops+4) - 2
			case 1:
				n.Text = m.pick("", "D", "S", "x", "M::D", "ghost")
			case 2:
				n.Kids = append(n.Kids, m.Intn(len(p)+2)-1)
			case 3:
				n.At = m.Intn(5) - 2
			}
		}
		s := m.typ(2)
		for i := -1; i <= len(p); i++ {
			Of(p, i)
		}
		Decl(p, "D")
		Check(p, s, []string{"T"})
		Base(p, s)
		Constructors(p, s)
		Fields(p, s)
		Member(p, s, "f")
		Signature(p, "D")
		Inhabited(p, s, []string{"T", "S"})
		Default(p, s)
		Finite(p, s)
	}
}
