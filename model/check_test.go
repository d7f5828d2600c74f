package model

import (
	"slices"
	"strconv"
	"strings"
	"testing"

	"entail/api"
	"entail/term"
)

// models are the functions with a model, as functions that return an error and whether there is something else.
func models(sig api.Signature, m Model) map[string]func() (api.Errno, bool) {
	value := func(v api.Value, e api.Errno) (api.Errno, bool) { return e, Compare(v, api.Value{}) != 0 }
	return map[string]func() (api.Errno, bool){
		"Check":   func() (api.Errno, bool) { return Check(sig, m), false },
		"HasSort": func() (api.Errno, bool) { is, e := HasSort(sig, m, "no sort", api.Value{}); return e, is },
		"Elements": func() (api.Errno, bool) {
			l, is, e := Elements(sig, m, "no sort")
			return e, is || l != nil
		},
		"Apply": func() (api.Errno, bool) { return value(Apply(sig, m, "no function", nil)) },
		"Eval":  func() (api.Errno, bool) { return value(Eval(sig, m, make([]Assigned, 101), nil)) },
		"Holds": func() (api.Errno, bool) { is, e := Holds(sig, m, nil); return e, is },
		"Set": func() (api.Errno, bool) {
			out, e := Set(sig, m, "no function", nil, api.Value{})
			return e, out.Universes != nil || out.Domains != nil || out.Tables != nil
		},
		"Print": func() (api.Errno, bool) { s, e := Print(sig, m); return e, s != "" },
	}
}

func TestCheck(t *testing.T) { // P12.1
	sig := example()
	sig.Sorts = append(sig.Sorts, "F")
	sig.Funs = append(sig.Funs, fun("g", "Int", "E", "Int"))
	good := func() Model {
		m := set(t, sig, first(t, sig, 2), "f", "_!0", "_!1")
		m = set(t, sig, m, "f", "_!1", "_!1")
		m = set(t, sig, m, "g", "3 _!1", "7")
		m.Domains = []Domain{{"Int", vals("1 2")}, {"L", vals("nil (cons _!0 nil)")}}
		return m
	}
	var values, entries []string
	for i := range 301 {
		values = append(values, strconv.Itoa(i))
		entries = append(entries, strconv.Itoa(i))
	}
	long := func(n int) []Entry {
		var l []Entry
		for _, s := range entries[:n] {
			l = append(l, Entry{vals(s + " _!0"), val("0")})
		}
		return l
	}
	for i, c := range []struct {
		change func(m *Model)
		want   api.Errno
	}{
		{func(m *Model) {}, api.OK}, {func(m *Model) { m.Universes = m.Universes[:1] }, api.ErrShape}, {func(m *Model) { m.Tables = m.Tables[:3]; m.Universes[0].Size = 9 }, api.ErrShape}, {func(m *Model) { m.Tables = append(m.Tables, Table{}) }, api.ErrShape},
		{func(m *Model) { m.Universes[0].Sort = "F" }, api.ErrName}, {func(m *Model) { m.Universes[1].Sort = ""; m.Universes[1].Size = 9 }, api.ErrName}, {func(m *Model) { m.Universes[0].Size = 0; m.Universes[1].Sort = "" }, api.ErrRange}, {func(m *Model) { m.Universes[0].Size = 4 }, api.ErrRange}, {func(m *Model) { m.Universes[1].Size = -1 }, api.ErrRange},
		{func(m *Model) { m.Universes[1].Size = 3 }, api.OK}, {func(m *Model) { m.Universes[1].Size = 4; m.Domains[0].Sort = "" }, api.ErrRange},
		{func(m *Model) { m.Domains[0].Sort = "int" }, api.ErrSort}, {func(m *Model) { m.Domains[1].Sort = "Seq<G>" }, api.ErrSort}, {func(m *Model) { m.Domains[1] = Domain{"Bool", nil} }, api.ErrKind}, {func(m *Model) { m.Domains[1].Sort = "E" }, api.ErrKind}, {func(m *Model) { m.Domains[1].Sort = "Map<Int,Set<Bool>>" }, api.ErrType}, {func(m *Model) { m.Domains[1].Sort = "Set<E>" }, api.ErrKind},
		{func(m *Model) { m.Domains[1] = Domain{"Int", nil} }, api.ErrTwice}, {func(m *Model) { m.Domains[0].Values = nil; m.Domains[1].Sort = "" }, api.ErrEmpty}, {func(m *Model) { m.Domains[0].Values = vals(strings.Join(values[:50], " ")) }, api.OK}, {func(m *Model) { m.Domains[0].Values = append(vals(strings.Join(values[:50], " ")), val("true")) }, api.ErrMany},
		{func(m *Model) { m.Domains[0].Values = vals("1 1/1 1") }, api.ErrType}, {func(m *Model) { m.Domains[0].Values = vals("1 2 1 true") }, api.ErrTwice}, {func(m *Model) { m.Domains[1].Values = vals("(cons _!2 nil)") }, api.ErrType}, {func(m *Model) { m.Domains = nil }, api.OK},
		{func(m *Model) { m.Tables[1].Name = "c" }, api.ErrName}, {func(m *Model) { m.Tables[0].Name = "" }, api.ErrName}, {func(m *Model) { m.Tables[3].Entries = long(300) }, api.OK}, {func(m *Model) { m.Tables[3].Entries = append(long(300), Entry{}) }, api.ErrMany}, {func(m *Model) { m.Tables[3].Name = "h"; m.Tables[3].Entries = long(301) }, api.ErrName},
		{func(m *Model) { m.Tables[1].Entries[0].Args = nil }, api.ErrArgs}, {func(m *Model) {
			m.Tables[1].Entries[1].Args = vals("_!0 _!1")
			m.Tables[1].Entries[1].Result = val("0")
		}, api.ErrArgs}, {func(m *Model) { m.Tables[1].Entries[1].Args = vals("_!2") }, api.ErrType}, {func(m *Model) { m.Tables[1].Entries[1].Result = val("_!2") }, api.ErrType},
		{func(m *Model) { m.Tables[3].Entries[0].Args = vals("3 3") }, api.ErrType}, {func(m *Model) { m.Tables[1].Entries[1].Args = vals("_!0"); m.Tables[1].Default = val("7") }, api.ErrTwice}, {func(m *Model) { m.Tables[1].Default = val("7") }, api.ErrType}, {func(m *Model) { m.Tables[2].Default = val("0") }, api.ErrType}, {func(m *Model) { m.Tables[3].Default = api.Value{} }, api.ErrType},
		{func(m *Model) { m.Tables[0].Entries = []Entry{{nil, val("_!1")}} }, api.OK}, {func(m *Model) { m.Tables[0].Entries = []Entry{{nil, val("_!1")}, {nil, val("_!0")}} }, api.ErrTwice}, {func(m *Model) { m.Tables[1].Entries[0].Args = nil; m.Tables[0].Default = val("0") }, api.ErrType},
	} {
		m := good()
		c.change(&m)
		if e := Check(sig, m); e != c.want {
			t.Errorf("%d: Check: %d, want %d", i, e, c.want)
		}
		if c.want == api.OK {
			continue
		}
		for name, ask := range models(sig, m) {
			if e, more := ask(); e != c.want || more {
				t.Errorf("%d: %s: %d, %v, want %d", i, name, e, more, c.want)
			}
		}
	}
	// The error of the signature comes first.
	sig.Sorts[0] = "Int"
	for name, ask := range models(sig, Model{}) {
		if e, more := ask(); e != api.ErrName || more {
			t.Errorf("%s: %d, %v", name, e, more)
		}
	}
}

func TestSignatureErrors(t *testing.T) { // P12.1, P12.2, P12.3
	wrong := api.Signature{Datas: []api.Datatype{{Sort: "D", Cons: []api.Cons{{Name: "c", Fields: fields("f", "D")}}}}}
	if v, e := Zero(wrong, "no sort"); e != api.ErrCycle || Compare(v, api.Value{}) != 0 {
		t.Errorf("Zero: %d", e)
	}
	if is, e := Exact(wrong, nil); is || e != api.ErrCycle {
		t.Errorf("Exact: %v, %d", is, e)
	}
	if m, e := First(wrong, 9); e != api.ErrCycle || m.Tables != nil {
		t.Errorf("First: %d", e)
	}
	if m, is, e := Find(wrong, make([]api.Terms, 51), 9, 0); is || e != api.ErrCycle || m.Tables != nil {
		t.Errorf("Find: %v, %d", is, e)
	}
}

func TestFirst(t *testing.T) { // P12.1
	sig := rich()
	for size, want := range map[int]api.Errno{1: api.OK, 2: api.OK, 3: api.OK, 0: api.ErrRange, 4: api.ErrRange, -1: api.ErrRange} {
		m, e := First(sig, size)
		if e != want || e != api.OK && (m.Universes != nil || m.Domains != nil || m.Tables != nil) {
			t.Errorf("First of the size %d: %v, %d", size, m, e)
		}
		if e != api.OK {
			continue
		}
		if e := Check(sig, m); e != api.OK || len(m.Domains) != 0 || len(m.Tables) != len(sig.Funs) {
			t.Errorf("First of the size %d: %v, %d", size, m, e)
		}
		for i, f := range sig.Funs {
			zero, _ := Zero(sig, f.Sort)
			if table := m.Tables[i]; table.Name != f.Name || len(table.Entries) > 0 || Compare(table.Default, zero) != 0 {
				t.Errorf("First of the size %d: %v", size, table)
			}
		}
		for i, u := range m.Universes {
			if u != (Universe{sig.Sorts[i], size}) {
				t.Errorf("First of the size %d: %v", size, u)
			}
		}
	}
}

func TestSet(t *testing.T) { // P12.1
	sig := rich()
	m := first(t, sig, 2)
	for _, c := range []struct {
		name, args, result string
		want               api.Errno
	}{
		{"c", "", "_!1", api.OK}, {"f", "_!1", "_!0", api.OK}, {"g", "-5 _!1", "7", api.OK}, {"i", "", "7", api.OK}, {"s", "[1 2]", "{_!0 _!1}", api.OK}, {"m", "<1 blue:2>", "<_!0 5:_!1>", api.OK}, {"x", "", "7", api.ErrUnknown}, {"nil", "", "nil", api.ErrUnknown}, {"head", "nil", "_!0", api.ErrUnknown}, {"div$Int", "1 2", "3", api.ErrUnknown},
		{"is$nil", "nil", "true", api.ErrUnknown}, {"c", "_!0", "0", api.ErrArgs}, {"f", "", "0", api.ErrArgs}, {"f", "_!0 _!0", "_!0", api.ErrArgs}, {"f", "_!2", "0", api.ErrType}, {"g", "true _!0", "0", api.ErrType}, {"g", "1 1", "0", api.ErrType}, {"f", "_!0", "_!2", api.ErrType}, {"c", "", "0", api.ErrType}, {"s", "[1 2]", "{_!1 _!0}", api.ErrType},
	} {
		out, e := Set(sig, m, c.name, vals(c.args), val(c.result))
		if e != c.want || (e != api.OK) != (out.Tables == nil) {
			t.Errorf("Set of %s at %s: %d, want %d", c.name, c.args, e, c.want)
		}
		if e != api.OK {
			continue
		}
		v, e := Apply(sig, out, c.name, vals(c.args))
		if say(v) != c.result || e != api.OK || Check(sig, out) != api.OK {
			t.Errorf("Set of %s at %s: %s, %d", c.name, c.args, say(v), e)
		}
	}
	// An entry is replaced where it is, and added at the end of the table, also if it is the default.
	m = set(t, sig, m, "g", "1 _!0", "5")
	m = set(t, sig, m, "g", "2 _!0", "0")
	m = set(t, sig, m, "g", "1 _!1", "6")
	m = set(t, sig, m, "g", "2 _!0", "8")
	m = set(t, sig, m, "g", "1 _!0", "0")
	m = set(t, sig, m, "c", "", "_!1")
	m = set(t, sig, m, "c", "", "_!0")
	var got []string
	for _, entry := range append(m.Tables[4].Entries, m.Tables[0].Entries...) {
		got = append(got, sayAll(entry.Args)+" = "+say(entry.Result))
	}
	if want := "1 _!0 = 0, 2 _!0 = 8, 1 _!1 = 6,  = _!0"; strings.Join(got, ", ") != want {
		t.Errorf("Set: %s", strings.Join(got, ", "))
	}
	full := m
	full.Tables = slices.Clone(m.Tables)
	full.Tables[4].Entries = nil
	for i := range 300 {
		full.Tables[4].Entries = append(full.Tables[4].Entries, Entry{vals(strconv.Itoa(i) + " _!0"), val("1")})
	}
	if _, e := Set(sig, full, "g", vals("300 _!0"), val("1")); e != api.ErrMany {
		t.Errorf("Set of a further entry: %d", e)
	}
	if out, e := Set(sig, full, "g", vals("299 _!0"), val("2")); e != api.OK || len(out.Tables[4].Entries) != 300 || say(out.Tables[4].Entries[299].Result) != "2" {
		t.Errorf("Set of the last entry: %d", e)
	}
	if _, e := Set(sig, full, "g", vals("300 _!0"), val("true")); e != api.ErrType {
		t.Errorf("Set of a wrong result: %d", e)
	}
}

func TestSetMemory(t *testing.T) { // P12.1
	sig := rich()
	m := set(t, sig, first(t, sig, 2), "s", "[1 2]", "{_!1}")
	m.Domains = []Domain{{"Seq<Int>", vals("[1]")}}
	args, result := vals("[3]"), val("{_!0}")
	before, _ := Print(sig, m)
	out, _ := Set(sig, m, "s", args, result)
	after, _ := Print(sig, out)
	m.Domains[0].Values[0].Items[0].Num = "9"
	m.Tables[6].Entries[0].Args[0].Items[0].Num = "9"
	m.Tables[6].Name = "x"
	m.Universes[0].Size = 1
	args[0].Items[0].Num, result.Items[0].Num = "9", "1"
	if again, _ := Print(sig, out); again != after || before == after {
		t.Errorf("Set shares memory with an argument: %s", again)
	}
}

func TestPrint(t *testing.T) { // P12.1
	sig := rich()
	m := set(t, sig, first(t, sig, 2), "c", "", "_!1")
	m = set(t, sig, m, "f", "_!0", "_!1")
	m = set(t, sig, m, "p", "_!1", "true")
	m = set(t, sig, m, "g", "-5 _!1", "7")
	m = set(t, sig, m, "g", "5 _!1", "-7")
	m = set(t, sig, m, "r", "1/2", "-3/1")
	m = set(t, sig, m, "s", "[1 2]", "{_!0 _!1}")
	m = set(t, sig, m, "m", "<1 blue:2 green:3>", "<_!0 5:_!1>")
	m = set(t, sig, m, "d", "", "(cons _!0 (cons _!1 nil))")
	m.Domains = []Domain{{"Int", vals("1 -2")}, {"Seq<L>", vals("[] [nil (cons _!1 nil)]")}, {"W", vals("(bare <false>) (wrap (some [none] 1/2) blue)")}}
	want := `sort E 2
sort F 2
domain Int 1 -2
domain Seq<L> [] [nil (cons _!1 nil)]
domain W (bare <false>) (wrap (some [none] 1/2) blue)
function c _!0
  = _!1
function f _!0
  _!0 = _!1
function p false
  _!1 = true
function i 0
function g 0
  -5 _!1 = 7
  5 _!1 = -7
function r 0/1
  1/2 = -3/1
function s {}
  [1 2] = {_!0 _!1}
function m <_!0>
  <1 blue:2 green:3> = <_!0 5:_!1>
function d nil
  = (cons _!0 (cons _!1 nil))
`
	if s, e := Print(sig, m); s != want || e != api.OK {
		t.Errorf("Print: %s, %d", s, e)
	}
	if s, e := Print(api.Signature{}, Model{}); s != "" || e != api.OK {
		t.Errorf("Print of nothing: %s, %d", s, e)
	}
	// Four lines of 12 bytes and the texts of sequences.
	four := api.Signature{Funs: []api.Fun{fun("a", "Seq<Int>"), fun("b", "Seq<Int>"), fun("c", "Seq<Int>"), fun("d", "Seq<Int>")}}
	for n, want := range map[int]api.Errno{16372: api.OK, 16373: api.ErrLong} {
		var m Model
		for _, f := range four.Funs {
			m.Tables = append(m.Tables, Table{Name: f.Name, Default: sequenceOf(16372)})
		}
		m.Tables[2].Default = sequenceOf(n)
		s, e := Print(four, m)
		if e != want || e == api.OK && len(s) != api.MaxText || e != api.OK && s != "" {
			t.Errorf("Print of a long text: %d bytes, %d", len(s), e)
		}
	}
}

// sequenceOf returns a sequence whose text has some bytes.
func sequenceOf(bytes int) api.Value {
	v := api.Value{Kind: api.VSeq}
	bytes -= len("[]")
	for bytes > 110 {
		v.Items = append(v.Items, api.Value{Kind: api.VInt, Num: times("1", 100)})
		bytes -= 101
	}
	v.Items = append(v.Items, api.Value{Kind: api.VInt, Num: times("1", bytes)})
	return v
}

func TestExact(t *testing.T) { // P12.2
	sig := rich()
	for s, want := range map[string]bool{
		"true": true, "(forall ((x E)) (= ?x c))": true, "(forall ((x E) (y Bool) (z C)) (or ?y (exists ((w F)) (= ?w ?w))))": true, "(exists ((x Int)) (= ?x i))": false, "(forall ((x E)) (exists ((y L)) (= (head ?y) ?x)))": false, "(and (exists ((x Real)) true) (forall ((x E)) true))": false,
		// With three elements: sets of elements are few, maps from elements to sets of them are not.
		"(forall ((x Set<E>)) true)": true, "(forall ((x Map<E,E>)) true)": true, "(forall ((x Map<E,Set<E>>)) true)": false, "(forall ((x Map<Int,E>)) true)": false, "(forall ((x Seq<Bool>)) true)": false, "(forall ((x Map<Bool,Set<E>>)) true)": true, "(forall ((x Set<Set<E>>)) true)": false,
		"(+ i 1)": true, "(ite (forall ((x Int)) true) 1 2)": false,
	} {
		is, e := Exact(sig, read(t, sig, s))
		if is != want || e != api.OK {
			t.Errorf("Exact of %s: %v, %d", s, is, e)
		}
	}
	free := term.Var("x", "Nowhere") // the sorts of nodes are not asked, and variables may be free
	if is, e := Exact(sig, free); !is || e != api.OK {
		t.Errorf("Exact of a free variable: %v, %d", is, e)
	}
	wrong, _ := term.Quantify(api.LForall, fields("x", "E", "y", "Int", "z", "Nowhere"), nil, term.Bool(true))
	if is, e := Exact(sig, wrong); is || e != api.ErrSort {
		t.Errorf("Exact of a wrong sort: %v, %d", is, e)
	}
	for i, x := range []api.Terms{nil, {{Op: api.LVar}}, {{Op: 99}}} {
		if is, e := Exact(sig, x); is || e != term.CheckForm(x) || e == api.OK {
			t.Errorf("%d: Exact: %v, %d", i, is, e)
		}
	}
}
