package infer

import (
	"entail/api"
	"entail/list"
)

// checkProgram infers the types of all declarations, or returns the first error.
func (c *checker) checkProgram() fault {
	for _, root := range c.roots() {
		parameters := list.Transform(c.kids(root, api.DTypeParam), nameOf)
		if f := c.checkTypes(first(c.tree, root.index), root.index, parameters); f.isError() {
			return f
		}
		if f := c.checkDeclaration(root); f.isError() {
			return f
		}
	}
	return fault{}
}

// firstFault returns the first error of some steps, of which each one is taken only if the one before had none.
func firstFault(steps ...func() fault) fault {
	for _, step := range steps {
		if f := step(); f.isError() {
			return f
		}
	}
	return fault{}
}

// checkDeclaration infers the types of the units of a declaration.
func (c *checker) checkDeclaration(d declaration) fault {
	switch d.Op {
	case api.DSubset:
		condition, witness := d.Kids[1], d.Kids[2]
		return firstFault(
			func() fault { return c.unit([]int{condition}, c.has(condition, made(boolWord))) },
			func() fault { return c.unit([]int{witness}, c.hasDeclared(witness, made(d.Text), nil)) },
		)
	case api.DConst:
		value := d.Kids[1]
		return c.unit([]int{value}, c.hasDeclared(value, c.typeOf(d), nil))
	case api.DFunction, api.DMethod:
		return c.checkCallable(d)
	}
	return fault{}
}

// checkCallable infers the types of the clauses and of the body of a function or a method.
func (c *checker) checkCallable(d declaration) fault {
	for _, kid := range d.Kids {
		f := fault{}
		switch op := c.tree[kid].Op; {
		case isClause(op):
			f = c.clause(kid)
		case op == api.SBlock:
			f = c.statement(kid)
		case isExpression(op):
			f = c.unit([]int{kid}, c.hasDeclared(kid, c.callableOf(d).results[0], nil))
		}
		if f.isError() {
			return f
		}
	}
	return fault{}
}

func isClause(op int) bool { return api.CRequires <= op && op <= api.CModifies }

// clause infers the types of the expressions of a clause.
func (c *checker) clause(node int) fault {
	n := c.tree[node]
	root := n.Kids[0]
	switch n.Op {
	case api.CDecreases:
		return c.unit(n.Kids)
	case api.CReads, api.CModifies:
		return c.unit(n.Kids, c.hasObjects(root))
	}
	return c.unit(n.Kids, c.has(root, made(boolWord)))
}

// hasObjects demands that an expression is an object, an array, or a set of such.
func (c *checker) hasObjects(root int) demand {
	return func() fault {
		t, e := c.known(c.types[root], aClass, arrayWord, setWord)
		if e == api.OK && t.head == setWord {
			_, e = c.known(t.args[0], aClass, arrayWord)
		}
		return faultAt(root, e)
	}
}
