// Package tree is layer 2: see shared/doc/02-tree.md.
package tree

import (
	"slices"

	"entail/api"
)

// The syntactic classes.
const (
	Type        = iota
	Expression  // 1
	Pattern     // 2
	Statement   // 3
	Clause      // 4
	Declaration // 5
	Module      // 6: MModule and MProgram
	Other       // 7
)

const maxKids = 400

// firstError returns the first error of a list, or OK.
func firstError(list ...api.Errno) api.Errno {
	for _, e := range list {
		if e != api.OK {
			return e
		}
	}
	return api.OK
}

// transform applies a function to each element of a list.
func transform[A, B any](list []A, apply func(A) B) []B {
	out := make([]B, 0, len(list))
	for _, x := range list {
		out = append(out, apply(x))
	}
	return out
}

// span is what is known of a subtree: the index of its first node, and its depth.
type span struct {
	first, depth int
}

// survey is a tree with the spans of its first nodes.
type survey struct {
	tree  api.Tree
	spans []span
}

// measure returns the span of a node, and whether its children are in order.
func (s survey) measure(node int) (span, bool) {
	kids := s.tree[node].Kids
	out := span{node, 1}
	for i := range kids {
		kid := kids[len(kids)-1-i]
		if kid < 0 || kid != out.first-1 {
			return span{}, false
		}
		out.first = s.spans[kid].first
		out.depth = max(out.depth, s.spans[kid].depth+1)
	}
	return out, true
}

// add returns the first error of the next node, and takes down its span.
func (s *survey) add(table *[api.Ops]shape) api.Errno {
	node := len(s.spans)
	n := s.tree[node]
	if n.Op < 0 || n.Op >= api.Ops {
		return api.ErrKind
	}
	form := &table[n.Op]
	if !form.text(n.Text) {
		return api.ErrName
	}
	size, ordered := s.measure(node)
	if !ordered {
		return api.ErrOrder
	}
	s.spans = append(s.spans, size)
	if e := form.fit(s.tree, n); e != api.OK {
		return e
	}
	if n.At < 0 {
		return api.ErrRange
	}
	if size.depth > api.MaxDepth {
		return api.ErrDeep
	}
	return api.OK
}

// surveyOf checks a tree: it returns the spans of its nodes, or the index of a node with its error.
func surveyOf(t api.Tree) (survey, int, api.Errno) {
	if len(t) == 0 {
		return survey{}, 0, api.ErrEmpty
	}
	if len(t) > api.MaxNodes {
		return survey{}, 0, api.ErrMany
	}
	table := shapes()
	s := survey{t, make([]span, 0, len(t))}
	for i := range len(t) {
		if e := s.add(&table); e != api.OK {
			return survey{}, i, e
		}
	}
	root := len(t) - 1
	if s.spans[root].first != 0 {
		return survey{}, root, api.ErrForm
	}
	return s, 0, api.OK
}

// errorOf returns the error of a tree.
func errorOf(t api.Tree) api.Errno {
	_, e := Check(t)
	return e
}

// surveyWith checks a tree that must have a node.
func surveyWith(t api.Tree, node int) (survey, api.Errno) {
	s, _, e := surveyOf(t)
	if e == api.OK && (node < 0 || node >= len(t)) {
		e = api.ErrUnknown
	}
	return s, e
}

// part returns the subtree of a node.
func (s survey) part(node int) api.Tree {
	first := s.spans[node].first
	return appendTree(nil, s.tree[first:node+1], -first)
}

// appendTree appends copies of nodes whose children have moved by an offset.
func appendTree(t, nodes api.Tree, offset int) api.Tree {
	for _, n := range nodes {
		n.Kids = transform(n.Kids, func(kid int) int { return kid + offset })
		t = append(t, n)
	}
	return t
}

// Check returns the index of the first malformed node and the error, or 0 and OK.
func Check(t api.Tree) (int, api.Errno) {
	_, at, e := surveyOf(t)
	return at, e
}

// checked returns a tree, or its error.
func checked(t api.Tree) (api.Tree, api.Errno) {
	if e := errorOf(t); e != api.OK {
		return nil, e
	}
	return t, api.OK
}

// Make returns a tree with a new root above subtrees.
func Make(op int, text string, kids []api.Tree) (api.Tree, api.Errno) {
	if len(kids) > maxKids {
		return nil, api.ErrMany
	}
	if e := firstError(transform(kids, errorOf)...); e != api.OK {
		return nil, e
	}
	var out api.Tree
	root := api.Node{Op: op, Text: text}
	for _, kid := range kids {
		out = appendTree(out, kid, len(out))
		root.Kids = append(root.Kids, len(out)-1)
	}
	if len(out) > 0 {
		root.At = out[0].At
	}
	return checked(append(out, root))
}

// Sub returns the subtree of a node.
func Sub(t api.Tree, node int) (api.Tree, api.Errno) {
	s, e := surveyWith(t, node)
	if e != api.OK {
		return nil, e
	}
	return s.part(node), api.OK
}

// Kids returns the subtrees of the children of a node.
func Kids(t api.Tree, node int) ([]api.Tree, api.Errno) {
	s, e := surveyWith(t, node)
	if e != api.OK {
		return nil, e
	}
	return transform(t[node].Kids, s.part), api.OK
}

// Replace returns a tree in which the subtree of a node is replaced by another tree.
func Replace(t api.Tree, node int, by api.Tree) (api.Tree, api.Errno) {
	s, _, e := surveyOf(t)
	if e := firstError(e, errorOf(by)); e != api.OK {
		return nil, e
	}
	if node < 0 || node >= len(t) {
		return nil, api.ErrUnknown
	}
	first := s.spans[node].first
	move := first + len(by) - 1 - node
	out := appendTree(nil, t[:first], 0)
	out = appendTree(out, by, first)
	for _, n := range t[node+1:] {
		n.Kids = slices.Clone(n.Kids)
		for i, kid := range n.Kids {
			if kid >= node {
				n.Kids[i] = kid + move
			}
		}
		out = append(out, n)
	}
	return checked(out)
}

// Parent returns the parent of a node, or -1 for the root.
func Parent(t api.Tree, node int) (int, api.Errno) {
	if _, e := surveyWith(t, node); e != api.OK {
		return 0, e
	}
	for i := range len(t) {
		if slices.Contains(t[i].Kids, node) {
			return i, api.OK
		}
	}
	return -1, api.OK
}

// leaf is a node without its children and its offset.
type leaf struct {
	op   int
	text string
}

func leafOf(n api.Node) leaf { return leaf{n.Op, n.Text} }

// Same reports whether two trees are equal, without their offsets.
func Same(a, b api.Tree) bool {
	return slices.EqualFunc(a, b, func(x, y api.Node) bool {
		return leafOf(x) == leafOf(y) && slices.Equal(x.Kids, y.Kids)
	})
}

// Depth returns the number of nodes on the longest path from the root to a leaf.
func Depth(t api.Tree) (int, api.Errno) {
	s, _, e := surveyOf(t)
	if e != api.OK {
		return 0, e
	}
	return s.spans[len(t)-1].depth, api.OK
}

// Class returns the syntactic class of an Op.
func Class(op int) (int, api.Errno) {
	if op < 0 || op >= api.Ops {
		return 0, api.ErrKind
	}
	return classOf(op), api.OK
}
