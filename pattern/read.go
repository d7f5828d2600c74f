package pattern

import (
	"slices"

	"entail/api"
	"entail/num"
	"entail/tree"
	"entail/value"
)

// kind is what is done with the patterns of an Op: how they are read for a type, and how a value matches them.
type kind struct {
	op    int
	read  func(r *reader, node int, typ string) *shape
	match func(m *matcher, node int, v api.Value) bool
}

// kinds returns the kinds of patterns, in the order of their Ops.
func kinds() [api.PLit - api.PVar + 1]kind {
	return [...]kind{
		{api.PVar, (*reader).variable, (*matcher).variable}, {api.PWild, (*reader).wildcard, (*matcher).wildcard},
		{api.PCons, (*reader).construction, (*matcher).construction}, {api.PLit, (*reader).literal, (*matcher).literal},
	}
}

func kindOf(op int) kind { return kinds()[op-api.PVar] }

// isPattern reports whether a syntax tree is a pattern.
func isPattern(t api.Tree) bool {
	class, e := tree.Class(t[len(t)-1].Op)
	return e == api.OK && class == tree.Pattern
}

// checkAlone returns the error of a pattern without a type.
func checkAlone(t api.Tree) api.Errno {
	if _, e := tree.Check(t); e != api.OK {
		return e
	}
	if !isPattern(t) {
		return api.ErrKind
	}
	names := map[string]bool{}
	for _, n := range t {
		if n.Op != api.PVar {
			continue
		}
		if names[n.Text] {
			return api.ErrTwice
		}
		names[n.Text] = true
	}
	return api.OK
}

// shape is a pattern without the names of its variables: its head, if it has one, and its parts.
type shape struct {
	head
	parts []*shape
}

func (s *shape) hasHead() bool { return s.kind != noHead }

// reader reads a pattern for a type. It keeps the variables, and the first error with its node.
type reader struct {
	catalog
	pattern   api.Tree
	root      *shape
	variables []api.Bound
	at        int
	failed    api.Errno
}

// read reads a pattern for a base type.
func (c catalog) read(pattern api.Tree, base string) *reader {
	r := &reader{catalog: c, pattern: pattern}
	root := len(pattern) - 1
	if at, e := tree.Check(pattern); e != api.OK {
		r.fail(at, e)
	} else if !isPattern(pattern) {
		r.fail(root, api.ErrKind)
	} else {
		r.root = r.shape(root, base)
	}
	return r
}

// fail keeps the first error. Nodes are read by their indices.
func (r *reader) fail(node int, e api.Errno) {
	if r.failed == api.OK {
		r.at, r.failed = node, e
	}
}

func (r *reader) shape(node int, typ string) *shape {
	return kindOf(r.pattern[node].Op).read(r, node, typ)
}

func (r *reader) variable(node int, typ string) *shape {
	v := api.Bound{Name: r.pattern[node].Text, Sort: typ}
	if slices.ContainsFunc(r.variables, func(o api.Bound) bool { return o.Name == v.Name }) {
		r.fail(node, api.ErrTwice)
	}
	r.variables = append(r.variables, v)
	return &shape{}
}

func (r *reader) wildcard(int, string) *shape { return &shape{} }

// construction looks at the number of the parts first: below a wrong node no part is looked at, although its index is less.
func (r *reader) construction(node int, typ string) *shape {
	n := r.pattern[node]
	k, found := r.meaning(typ).constructor(n.Text)
	switch {
	case !found:
		r.fail(node, api.ErrUnknown)
		return &shape{}
	case len(n.Kids) != len(k.fields):
		r.fail(node, api.ErrArgs)
		return &shape{}
	}
	s := &shape{head: head{kind: aConstructor, name: k.name}}
	for i, kid := range n.Kids {
		s.parts = append(s.parts, r.shape(kid, k.fields[i]))
	}
	return s
}

func (r *reader) literal(node int, typ string) *shape {
	m := r.meaning(typ)
	h := literalAt(r.pattern, node)
	if h.kind != m.kind {
		r.fail(node, api.ErrType)
		return &shape{}
	}
	h.width = m.width
	if h.width != "" && value.Check(h.bits()) != api.OK {
		r.fail(node, api.ErrRange)
	}
	return &shape{head: h}
}

// literalAt returns the head of a literal in a pattern, without a width.
func literalAt(t api.Tree, node int) head {
	switch n := t[t[node].Kids[0]]; n.Op {
	case api.EBool:
		return head{kind: aTruth, name: n.Text}
	case api.ENeg:
		negative, _ := num.Neg(t[n.Kids[0]].Text)
		return head{kind: aNumber, name: negative}
	default:
		return head{kind: aNumber, name: n.Text}
	}
}

// treeOf returns the pattern that has a shape, with wildcards where it has no heads.
func treeOf(s *shape) (api.Tree, api.Errno) {
	t := appendPattern(nil, s)
	if _, e := tree.Check(t); e != api.OK {
		return nil, e
	}
	return t, api.OK
}

func appendPattern(t api.Tree, s *shape) api.Tree {
	switch s.kind {
	case aConstructor:
		root := api.Node{Op: api.PCons, Text: s.name}
		for _, part := range s.parts {
			t = appendPattern(t, part)
			root.Kids = append(root.Kids, len(t)-1)
		}
		return append(t, root)
	case aTruth:
		t = append(t, api.Node{Op: api.EBool, Text: s.name})
	case aNumber:
		digits, negative := digitsOf(s.name)
		t = append(t, api.Node{Op: api.EInt, Text: digits})
		if negative {
			t = append(t, api.Node{Op: api.ENeg, Kids: []int{len(t) - 1}})
		}
	default:
		return append(t, api.Node{Op: api.PWild})
	}
	return append(t, api.Node{Op: api.PLit, Kids: []int{len(t) - 1}})
}

// digitsOf returns the digits of an integer, and whether it is negative.
func digitsOf(number string) (string, bool) {
	for i, c := range number {
		if c != '-' {
			return number[i:], i > 0
		}
	}
	return "", false
}
