package pattern

import (
	"iter"

	"entail/api"
	"entail/list"
	"entail/value"
)

// arguments visits the arguments of a value of a constructor with their numbers; another value has none.
func arguments(v api.Value) iter.Seq2[int, api.Value] {
	return func(yield func(int, api.Value) bool) {
		if v.Kind != api.VCons {
			return
		}
		for i, item := range v.Items {
			if !yield(i, item) {
				return
			}
		}
	}
}

// owned returns a copy of a value that shares no memory with it.
func owned(v api.Value) api.Value {
	v.Items = list.Transform(v.Items, owned)
	return v
}

// partAt returns the part of a value at a path, and whether there is one.
func partAt(v api.Value, path []int) (api.Value, bool) {
next:
	for _, wanted := range path {
		for i, part := range arguments(v) {
			if i == wanted {
				v = part
				continue next
			}
		}
		return api.Value{}, false
	}
	return v, true
}

// headOf returns the label that the head of a value has in decision trees.
func headOf(v api.Value) string {
	if v.Kind == api.VCons {
		return v.Text
	}
	text, _ := value.Text(v)
	return text
}

// matcher matches a value against a pattern, and collects the variables.
type matcher struct {
	pattern  api.Tree
	bindings []Binding
}

// matched returns the variables of a pattern with their values, if a value matches it.
func matched(pattern api.Tree, v api.Value) ([]Binding, bool) {
	m := matcher{pattern: pattern}
	if !m.matches(len(pattern)-1, v) {
		return nil, false
	}
	return m.bindings, true
}

func (m *matcher) matches(node int, v api.Value) bool {
	return kindOf(m.pattern[node].Op).match(m, node, v)
}

func (m *matcher) variable(node int, v api.Value) bool {
	m.bindings = append(m.bindings, Binding{m.pattern[node].Text, owned(v)})
	return true
}

func (m *matcher) wildcard(int, api.Value) bool { return true }

func (m *matcher) construction(node int, v api.Value) bool {
	n := m.pattern[node]
	if v.Kind != api.VCons || v.Text != n.Text || len(v.Items) != len(n.Kids) {
		return false
	}
	for i, part := range arguments(v) {
		if !m.matches(n.Kids[i], part) {
			return false
		}
	}
	return true
}

// literal takes a number for an integer and for a bit vector of any width, because a pattern alone has no type.
func (m *matcher) literal(node int, v api.Value) bool {
	h := literalAt(m.pattern, node)
	if v.Kind == api.VBits {
		h.width = v.Text
	}
	kinds := [api.Kinds]int{api.VBool: aTruth, api.VInt: aNumber, api.VBits: aNumber}
	return kinds[v.Kind] == h.kind && h.label() == headOf(v)
}
