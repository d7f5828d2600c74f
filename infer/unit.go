package infer

import (
	"cmp"
	"slices"

	"entail/api"
	"entail/list"
	"entail/scope"
	"entail/tree"
	"entail/types"
)

const maxVariables = 100

// checker infers the types of a program, or of an expression.
type checker struct {
	*catalog
	solver
	tree      api.Tree
	rules     map[int]rule
	declaring []int             // what declares the variable that occurs at a node
	given     map[string]*shape // the variables that an expression has
	locals    map[int]*shape    // the types of the variables that nodes declare
	types     []*shape          // of the nodes that have one
	instances []Instance
	flows     []Flow
	now       *unit
}

// question is about the head of a type: it is asked when all of a unit has been gone through.
type question struct {
	node  int
	about *shape
	kinds []string
}

// instance is the type arguments at a node, as far as they are known.
type instance struct {
	node int
	args []*shape
}

// flow is a node whose value is assigned to something of a declared type, with the values of its type parameters.
type flow struct {
	node     int
	declared *shape
	values   map[string]*shape
}

// unit is what is taken down about expressions that are typed together.
type unit struct {
	nodes     []int
	questions []question
	instances []instance
	flows     []flow
}

func newChecker(in *catalog, t api.Tree) *checker {
	c := &checker{catalog: in, solver: solver{bindings: map[int]*shape{}}, tree: t, rules: map[int]rule{}, declaring: scope.Owners(t),
		given: map[string]*shape{}, locals: map[int]*shape{}, types: make([]*shape, len(t)), now: &unit{}}
	for _, r := range rules() {
		for i := range r.last - r.first + 1 {
			c.rules[r.first+i] = r
		}
	}
	return c
}

// declare takes down the variables that an expression has, or returns the first error.
func (c *checker) declare(vars []api.Bound) api.Errno {
	if len(vars) > maxVariables {
		return api.ErrMany
	}
	for _, v := range vars {
		_, twice := c.given[v.Name]
		e := c.errorOf(v.Sort, nil)
		switch {
		case !isLower(v.Name):
			return api.ErrName
		case twice:
			return api.ErrTwice
		case e != api.OK:
			return e
		}
		c.given[v.Name] = c.base(read(v.Sort), nil)
	}
	return api.OK
}

// checkTypes returns the first error of the declared types from a node to another one.
func (c *checker) checkTypes(from, to int, parameters []string) fault {
	inner := map[int]bool{}
	for i := range to + 1 - from {
		n := c.tree[to-i]
		if !isType(n.Op) {
			continue
		}
		for _, kid := range n.Kids {
			inner[kid] = true
		}
	}
	for i := range to + 1 - from {
		node := from + i
		if !isType(c.tree[node].Op) || inner[node] {
			continue
		}
		if e := c.errorOf(shapeAt(c.tree, node).String(), parameters); e != api.OK {
			return fault{node, e}
		}
	}
	return fault{}
}

// isType reports whether an Op is one of a type.
func isType(op int) bool {
	class, e := tree.Class(op)
	return e == api.OK && class == tree.Type
}

// demand is something that a unit must have; it is asked when its nodes have been gone through.
type demand func() fault

// unit goes through expressions that are typed together, asks what they must have, and finishes them.
func (c *checker) unit(roots []int, demands ...demand) fault {
	c.now = &unit{}
	for _, root := range roots {
		if f := c.visit(root); f.isError() {
			return f
		}
	}
	for _, ask := range demands {
		if f := ask(); f.isError() {
			return f
		}
	}
	return c.finish()
}

// has demands that an expression has a type.
func (c *checker) has(root int, want *shape) demand {
	return func() fault { return faultAt(root, c.unify(c.types[root], want)) }
}

// hasDeclared demands that an expression has the base of a declared type, into which its value flows.
func (c *checker) hasDeclared(root int, declared *shape, values map[string]*shape) demand {
	return func() fault {
		want, e := c.use(declared, values)
		if e == api.OK {
			e = c.unify(c.types[root], want)
		}
		c.flow(root, declared, values)
		return faultAt(root, e)
	}
}

// hasKind demands that the head of an expression's type is known, and of one of some kinds.
func (c *checker) hasKind(root int, kinds ...string) demand {
	return func() fault {
		_, e := c.known(c.types[root], kinds...)
		return faultAt(root, e)
	}
}

// use returns the base of a declared type with values for its type parameters.
func (c *checker) use(declared *shape, values map[string]*shape) (*shape, api.Errno) {
	base := c.base(declared, values)
	if base == nil {
		return nil, api.ErrCycle
	}
	return base, api.OK
}

// flow takes down that the value of a node is assigned to something of a declared type, if that is not its own base.
func (c *checker) flow(node int, declared *shape, values map[string]*shape) {
	if c.hasSubset(declared) {
		c.now.flows = append(c.now.flows, flow{node, declared, values})
	}
}

// known returns a type whose head has to be known, and of one of some kinds.
func (c *checker) known(t *shape, kinds ...string) (*shape, api.Errno) {
	t = c.find(t)
	switch {
	case t.variable > 0:
		return nil, api.ErrOpen
	case !slices.Contains(kinds, c.kindOf(t.head)):
		return nil, api.ErrType
	}
	return t, api.OK
}

// ask asks later whether the head of a type is of one of some kinds.
func (c *checker) ask(node int, t *shape, kinds []string) {
	c.now.questions = append(c.now.questions, question{node, t, kinds})
}

// note takes down the type of a node.
func (c *checker) note(node int, t *shape) {
	c.types[node] = t
	c.now.nodes = append(c.now.nodes, node)
}

// ascending returns a copy of a list in the order of the nodes of its elements.
func ascending[A any](elements []A, nodeOf func(A) int) []A {
	out := slices.Clone(elements)
	slices.SortFunc(out, func(a, b A) int { return cmp.Compare(nodeOf(a), nodeOf(b)) })
	return out
}

// finish asks what is asked at the end of a unit, and takes down its results.
func (c *checker) finish() fault {
	for _, q := range c.now.questions {
		if _, e := c.known(q.about, q.kinds...); e != api.OK {
			return fault{q.node, e}
		}
	}
	nodes := ascending(c.now.nodes, func(node int) int { return node })
	for _, check := range []func(*shape) api.Errno{c.checkLength, c.checkClosed} {
		for _, node := range nodes {
			if e := check(c.types[node]); e != api.OK {
				return fault{node, e}
			}
		}
	}
	if f := c.finishInstances(); f.isError() {
		return f
	}
	return c.finishFlows()
}

// checkLength returns ErrLong for a type that is too long.
func (c *checker) checkLength(t *shape) api.Errno {
	if c.isLong(t) {
		return api.ErrLong
	}
	return api.OK
}

// checkClosed returns ErrOpen for a type that is not known.
func (c *checker) checkClosed(t *shape) api.Errno {
	if c.isOpen(t) {
		return api.ErrOpen
	}
	return api.OK
}

func (c *checker) finishInstances() fault {
	for _, i := range ascending(c.now.instances, func(i instance) int { return i.node }) {
		for _, arg := range i.args {
			e := c.checkLength(arg)
			if e == api.OK {
				e = c.checkClosed(arg)
			}
			if e != api.OK {
				return fault{i.node, e}
			}
		}
		c.instances = append(c.instances, Instance{i.node, list.Transform(i.args, c.text)})
	}
	return fault{}
}

func (c *checker) finishFlows() fault {
	for _, f := range ascending(c.now.flows, func(f flow) int { return f.node }) {
		declared := f.declared.put(f.values)
		if e := c.checkLength(declared); e != api.OK {
			return fault{f.node, e}
		}
		c.flows = append(c.flows, Flow{f.node, c.text(declared)})
	}
	return fault{}
}

// texts returns the strings of the types of all nodes.
func (c *checker) texts() []string {
	return list.Transform(c.types, func(t *shape) string {
		if t == nil {
			return ""
		}
		return c.text(t)
	})
}

// declaredText returns the declared type of a variable, or the type that was found for it.
func (c *checker) declaredText(node int) string {
	switch n := c.tree[node]; n.Op {
	case api.PVar:
		return c.text(c.types[node])
	case api.ELet:
		return c.text(c.types[n.Kids[0]])
	}
	text, _ := types.Of(c.tree, c.tree[node].Kids[0])
	return text
}
