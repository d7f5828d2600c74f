package infer

import (
	"slices"

	"entail/api"
)

// statements infers the types of the units of statements.
func (c *checker) statements(nodes []int) fault {
	for _, node := range nodes {
		if f := c.statement(node); f.isError() {
			return f
		}
	}
	return fault{}
}

// statement infers the types of the units of a statement.
func (c *checker) statement(node int) fault {
	n := item{c.tree[node], node}
	switch n.Op {
	case api.SBlock, api.SAlt:
		return c.statements(n.Kids)
	case api.SVar, api.SGhostVar:
		return c.declarationOf(n)
	case api.SAssign:
		return c.assignment(n)
	case api.SHavoc, api.SPrint:
		return c.unit(n.Kids)
	case api.SChoose:
		return c.unit(n.Kids, c.hasVariable(n), c.has(n.Kids[0], made(boolWord)))
	case api.SCall:
		return c.call(n)
	case api.SNew:
		return c.allocation(n)
	case api.SNewArray:
		return c.arrayAllocation(n)
	case api.SIf, api.SGuard, api.SAssert, api.SAssume:
		condition := n.Kids[:1]
		return firstFault(
			func() fault { return c.unit(condition, c.has(condition[0], made(boolWord))) },
			func() fault { return c.statements(n.Kids[1:]) },
		)
	case api.SWhile:
		return c.loop(n)
	case api.SMatch:
		return c.cases(n)
	case api.SCalc:
		return c.calculation(n)
	case api.SForall:
		return c.forall(n)
	}
	return fault{}
}

// declarationOf infers the types of the initial value of a variable, if it has one.
func (c *checker) declarationOf(n item) fault {
	if len(n.Kids) == 1 {
		return fault{}
	}
	return c.unit(n.Kids[1:], c.hasDeclared(n.Kids[1], shapeAt(c.tree, n.Kids[0]), nil))
}

// assignment infers the types of a target and of its value.
func (c *checker) assignment(n item) fault {
	target, value := n.Kids[0], n.Kids[1]
	return c.unit(n.Kids, func() fault {
		if declared, values := c.targetType(target); declared != nil {
			c.flow(value, declared, values)
		}
		return faultAt(value, c.unify(c.types[value], c.types[target]))
	})
}

// targetType returns the declared type of a target, if it has one, with the values of its type parameters.
func (c *checker) targetType(target int) (*shape, map[string]*shape) {
	n := c.tree[target]
	switch n.Op {
	case api.EVar:
		return c.declaredType(target), nil
	case api.EField:
		declared, values, _ := c.member(c.find(c.types[n.Kids[0]]), n.Text)
		return declared, values
	}
	return nil, nil
}

// declaredType returns the declared type of the local variable at a node, if it is one and has one.
func (c *checker) declaredType(node int) *shape {
	owner := c.declaring[node]
	if owner < 0 || c.tree[owner].Op == api.PVar || c.tree[owner].Op == api.ELet {
		return nil
	}
	return shapeAt(c.tree, c.tree[owner].Kids[0])
}

// hasVariable demands that the variable of a statement is in scope.
func (c *checker) hasVariable(n item) demand {
	return func() fault {
		if c.declaring[n.index] < 0 {
			return fault{n.index, api.ErrUnknown}
		}
		return fault{}
	}
}

// isOfType demands that the variable of a statement has a type.
func (c *checker) isOfType(n item, want *shape) demand {
	return func() fault { return faultAt(n.index, c.unify(c.local(c.declaring[n.index]), want)) }
}

// hasAll demands that expressions have the bases of declared types.
func (c *checker) hasAll(roots []int, declared []*shape, values map[string]*shape) demand {
	return func() fault {
		for i, root := range roots {
			if f := c.hasDeclared(root, declared[i], values)(); f.isError() {
				return f
			}
		}
		return fault{}
	}
}

// call infers the types of the targets and of the arguments of a method call.
func (c *checker) call(n item) fault {
	targets, arguments := c.tree[n.Kids[0]].Kids, n.Kids[1:]
	return c.unit(slices.Concat(targets, arguments), func() fault {
		d := c.named[n.Text]
		if d.Op != api.DMethod {
			return fault{n.index, api.ErrUnknown}
		}
		k := c.callableOf(d)
		if len(k.takes) != len(arguments) || len(k.results) != len(targets) {
			return fault{n.index, api.ErrArgs}
		}
		values := c.instantiate(n.index, k)
		return firstFault(
			c.hasAll(arguments, k.takes, values),
			func() fault { return c.takeResults(targets, k.results, values) },
		)
	})
}

// takeResults unifies the types of targets with those of the results that they take.
func (c *checker) takeResults(targets []int, results []*shape, values map[string]*shape) fault {
	for i, target := range targets {
		result, e := c.use(results[i], values)
		if e == api.OK {
			e = c.unify(c.types[target], result)
		}
		if e != api.OK {
			return fault{target, e}
		}
		if declared := c.declaredType(target); declared != nil {
			c.flow(target, declared, nil)
		}
	}
	return fault{}
}

// allocation infers the types of the values of the fields of a new object.
func (c *checker) allocation(n item) fault {
	values := n.Kids[1:]
	return c.unit(values, c.hasVariable(n), func() fault {
		class := c.base(shapeAt(c.tree, n.Kids[0]), nil)
		d := c.named[class.head]
		if d.Op != api.DClass {
			return fault{n.index, api.ErrKind}
		}
		k := c.callableOf(d)
		if len(k.takes) != len(values) {
			return fault{n.index, api.ErrArgs}
		}
		return firstFault(c.hasAll(values, k.takes, nil), c.isOfType(n, class))
	})
}

// arrayAllocation infers the types of the length and of the initial value of a new array.
func (c *checker) arrayAllocation(n item) fault {
	length, value := n.Kids[1], n.Kids[2]
	element := shapeAt(c.tree, n.Kids[0])
	return c.unit(n.Kids[1:], c.hasVariable(n), c.has(length, made(intWord)), c.hasDeclared(value, element, nil),
		c.isOfType(n, made(arrayWord, c.base(element, nil))))
}

// loop infers the types of the condition, of the clauses and of the body of a loop.
func (c *checker) loop(n item) fault {
	condition := n.Kids[0]
	if f := c.unit(n.Kids[:1], c.has(condition, made(boolWord))); f.isError() {
		return f
	}
	for _, kid := range n.Kids[1:] {
		infer := c.clause
		if c.tree[kid].Op == api.SBlock {
			infer = c.statement
		}
		if f := infer(kid); f.isError() {
			return f
		}
	}
	return fault{}
}

// cases infers the types of the value of a match, of its patterns, and of the blocks of its cases.
func (c *checker) cases(n item) fault {
	value := n.Kids[0]
	if f := c.unit(n.Kids[:1], c.hasKind(value, aDatatype, intWord, boolWord)); f.isError() {
		return f
	}
	for _, kid := range n.Kids[1:] {
		inside := c.tree[kid].Kids
		f := firstFault(
			func() fault {
				return c.unit(nil, func() fault { return c.pattern(inside[0], c.types[value]) })
			},
			func() fault { return c.statement(inside[1]) },
		)
		if f.isError() {
			return f
		}
	}
	return fault{}
}

// calculation infers the types of the expressions of a calculation, and then those of its hints.
func (c *checker) calculation(n item) fault {
	var roots, hints []int
	wants := map[string]bool{}
	for _, kid := range n.Kids {
		step := c.tree[kid]
		roots = append(roots, step.Kids[0])
		hints = append(hints, step.Kids[1:]...)
		switch step.Text {
		case "==>":
			wants[boolWord] = true
		case "<=", "<":
			wants[intWord] = true
		}
	}
	return firstFault(
		func() fault { return c.unit(roots, func() fault { return c.isOneType(roots, wants) }) },
		func() fault { return c.statements(hints) },
	)
}

// isOneType unifies the types of expressions, also with some that all of them must have.
func (c *checker) isOneType(roots []int, wants map[string]bool) fault {
	for _, root := range roots {
		for _, head := range [...]string{boolWord, intWord} {
			if !wants[head] {
				continue
			}
			if e := c.unify(c.types[root], made(head)); e != api.OK {
				return fault{root, e}
			}
		}
		if e := c.unify(c.types[root], c.types[roots[0]]); e != api.OK {
			return fault{root, e}
		}
	}
	return fault{}
}

// forall infers the types of the range, of the postcondition and of the block of a forall statement.
func (c *checker) forall(n item) fault {
	last := len(n.Kids) - 1
	condition, ensures, block := n.Kids[last-2], n.Kids[last-1], n.Kids[last]
	return firstFault(
		func() fault { return c.unit([]int{condition}, c.has(condition, made(boolWord))) },
		func() fault { return c.clause(ensures) },
		func() fault { return c.statement(block) },
	)
}
