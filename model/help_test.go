package model

import (
	"strings"
	"testing"

	"entail/api"
	"entail/num"
	"entail/term"
)

// field makes fields from names and sorts that follow each other.
func fields(l ...string) []api.Bound {
	var out []api.Bound
	for i := 0; i < len(l); i += 2 {
		out = append(out, api.Bound{Name: l[i], Sort: l[i+1]})
	}
	return out
}

// fun makes a function from its name, the sorts of its arguments and that of its result.
func fun(name string, sorts ...string) api.Fun {
	last := len(sorts) - 1
	return api.Fun{Name: name, Args: sorts[:last], Sort: sorts[last]}
}

// example is the signature G of chapter 9.
func example() api.Signature {
	l := api.Datatype{Sort: "L", Cons: []api.Cons{{Name: "nil"}, {Name: "cons", Fields: fields("head", "E", "tail", "L")}}}
	return api.Signature{Sorts: []string{"E"}, Datas: []api.Datatype{l}, Funs: []api.Fun{fun("c", "E"), fun("f", "E", "E"), fun("p", "E", "Bool")}}
}

// rich is a signature with functions of many sorts, and datatypes of all kinds.
func rich() api.Signature {
	sig := example()
	sig.Sorts = append(sig.Sorts, "F")
	sig.Datas = append(sig.Datas, api.Datatype{Sort: "T", Cons: []api.Cons{{Name: "node", Fields: fields("left", "T", "right", "T")}, {Name: "leaf", Fields: fields("num", "Int")}}},
		api.Datatype{Sort: "C", Cons: []api.Cons{{Name: "red"}, {Name: "green"}, {Name: "blue"}}},
		api.Datatype{Sort: "W", Cons: []api.Cons{{Name: "wrap", Fields: fields("unwrap", "X", "color", "C")}, {Name: "bare", Fields: fields("map", "Map<C,Bool>")}}},
		api.Datatype{Sort: "X", Cons: []api.Cons{{Name: "some", Fields: fields("seq", "Seq<X>", "real", "Real")}, {Name: "none"}}})
	sig.Funs = append(sig.Funs, fun("i", "Int"), fun("g", "Int", "E", "Int"), fun("r", "Real", "Real"), fun("s", "Seq<Int>", "Set<E>"), fun("m", "Map<C,Int>", "Map<Int,E>"), fun("d", "L"))
	return sig
}

// reader reads values that are written as Print writes them.
type reader struct {
	rest string
}

// val returns the value of a text.
func val(s string) api.Value {
	r := reader{s}
	v := r.value()
	if r.rest != "" {
		panic("the value " + s + " ends with " + r.rest)
	}
	return v
}

// vals returns the values of a text, separated by spaces.
func vals(s string) []api.Value {
	return val("[" + s + "]").Items
}

// list reads values up to a sign.
func (r *reader) list(end string) []api.Value {
	var l []api.Value
	for !strings.HasPrefix(r.rest, end) {
		l = append(l, r.value())
		r.rest = strings.TrimLeft(r.rest, " :")
	}
	r.rest = r.rest[len(end):]
	return l
}

func (r *reader) word() string {
	end := strings.IndexAny(r.rest, " :)]}>")
	if end < 0 {
		end = len(r.rest)
	}
	word := r.rest[:end]
	r.rest = r.rest[end:]
	return word
}

func (r *reader) value() api.Value {
	kinds := map[byte]int{'[': api.VSeq, '{': api.VSet, '<': api.VMap}
	ends := map[byte]string{'[': "]", '{': "}", '<': ">"}
	first := r.rest[0]
	if kind, is := kinds[first]; is {
		r.rest = r.rest[1:]
		return api.Value{Kind: kind, Items: r.list(ends[first])}
	}
	if first == '(' {
		r.rest = r.rest[1:]
		name := r.word()
		r.rest = strings.TrimLeft(r.rest, " ")
		return api.Value{Kind: api.VCons, Text: name, Items: r.list(")")}
	}
	word := r.word()
	switch {
	case word == "true":
		return api.Value{Kind: api.VBool, Num: "1"}
	case word == "false":
		return api.Value{Kind: api.VBool, Num: "0"}
	case strings.HasPrefix(word, "_!"):
		return api.Value{Kind: api.VRef, Num: word[2:]}
	case strings.Contains(word, "/"):
		return api.Value{Kind: api.VReal, Num: word}
	case num.Check(word) == api.OK:
		return api.Value{Kind: api.VInt, Num: word}
	}
	return api.Value{Kind: api.VCons, Text: word}
}

// say returns the text of a value, or nothing for no value.
func say(v api.Value) string {
	if v.Kind == api.VMap && len(v.Items) == 0 {
		return "<>"
	}
	return wordOf(v)
}

func sayAll(l []api.Value) string {
	var out []string
	for _, v := range l {
		out = append(out, say(v))
	}
	return strings.Join(out, " ")
}

func times(s string, n int) string { return strings.Repeat(s, n) }

// read returns the term of a text.
func read(t *testing.T, sig api.Signature, s string, vars ...api.Bound) api.Terms {
	t.Helper()
	x, at, e := term.Parse(sig, vars, s)
	if e != api.OK {
		t.Fatalf("%s: %d at %d", s, e, at)
	}
	return x
}

// first returns the first model of a signature.
func first(t *testing.T, sig api.Signature, size int) Model {
	t.Helper()
	m, e := First(sig, size)
	if e != api.OK {
		t.Fatal(e)
	}
	return m
}

// set returns a model with another result, where arguments and result are texts.
func set(t *testing.T, sig api.Signature, m Model, name, args, result string) Model {
	t.Helper()
	m, e := Set(sig, m, name, vals(args), val(result))
	if e != api.OK {
		t.Fatalf("Set of %s at %s to %s: %d", name, args, result, e)
	}
	return m
}

// exampleModel is the model M of the chapter's examples.
func exampleModel(t *testing.T) Model {
	sig := example()
	m := set(t, sig, first(t, sig, 2), "f", "_!0", "_!1")
	return set(t, sig, m, "p", "_!1", "true")
}
