package parse

import (
	"entail/api"
	"entail/tree"
)

// node is a node of the tree that is being read. The operand in the middle of a chain is the child of two nodes.
type node struct {
	op   int
	text string
	at   int
	kids []*node
	size int
}

func made(op int, text string, at int, kids ...*node) *node {
	n := &node{op, text, at, kids, 1}
	for i := range len(kids) {
		n.size += kids[i].size
	}
	return n
}

// appendTo appends the nodes of a subtree to a list in post-order.
func (n *node) appendTo(t api.Tree) api.Tree {
	out := api.Node{Op: n.op, Text: n.text, At: n.at}
	for _, kid := range n.kids {
		t = kid.appendTo(t)
		out.Kids = append(out.Kids, len(t)-1)
	}
	return append(t, out)
}

// tree returns the syntax tree, or the offset of the node with the first error.
func (n *node) tree() (api.Tree, int, api.Errno) {
	if n.size > api.MaxNodes {
		return nil, 0, api.ErrMany
	}
	t := n.appendTo(nil)
	if at, e := tree.Check(t); e != api.OK {
		return nil, t[at].At, e
	}
	return t, 0, api.OK
}
