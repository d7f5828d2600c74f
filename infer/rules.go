package infer

import (
	"entail/api"
	"entail/lex"
	"entail/list"
	"entail/tree"
)

// item is a node with its index.
type item struct {
	api.Node
	index int
}

// rule gives the type of a node with an Op from first to last whose children have been gone through. What it unifies
// and finds wrong is told at the node.
type rule struct {
	first, last int
	apply       func(c *checker, n item) (*shape, api.Errno)
}

// The kinds of heads that rules permit.
func numbers() []string     { return []string{intWord, realWord, bitsWord} }
func collections() []string { return []string{seqWord, setWord, multiWord, mapWord} }

func rules() []rule {
	products := []string{intWord, realWord, bitsWord, setWord, multiWord}
	ordered := []string{intWord, realWord, bitsWord, setWord, multiWord, seqWord}
	sums := []string{intWord, realWord, bitsWord, setWord, multiWord, seqWord, mapWord}
	return []rule{
		{api.EInt, api.EInt, always(intWord)}, {api.EReal, api.EReal, always(realWord)}, {api.EBool, api.EBool, always(boolWord)},
		{api.EVar, api.EVar, (*checker).variable},
		{api.ENot, api.ENot, (*checker).logical},
		{api.ENeg, api.ENeg, arithmetic(numbers()...)},
		{api.EAdd, api.EAdd, arithmetic(sums...)}, {api.ESub, api.EMul, arithmetic(products...)},
		{api.EDiv, api.EDiv, arithmetic(numbers()...)}, {api.EMod, api.EMod, arithmetic(intWord, bitsWord)},
		{api.EAnd, api.EIff, (*checker).logical},
		{api.EEq, api.ENe, comparison()}, {api.ELt, api.ELe, comparison(ordered...)},
		{api.EIn, api.EIn, (*checker).membership},
		{api.EBitAnd, api.EBitXor, arithmetic(bitsWord)}, {api.EShl, api.EShr, (*checker).shift},
		{api.EAs, api.EAs, (*checker).conversion},
		{api.EIf, api.EIf, (*checker).choice}, {api.ELet, api.ELet, sameAs(1)},
		{api.ECall, api.ECall, application(api.DFunction)}, {api.ECons, api.ECons, application(api.DCons)},
		{api.EField, api.EField, (*checker).field}, {api.EIs, api.EIs, (*checker).test},
		{api.EIndex, api.EIndex, (*checker).element}, {api.ESlice, api.ESlice, (*checker).slice}, {api.EUpdate, api.EUpdate, (*checker).update},
		{api.ECard, api.ECard, asks(intWord, seqWord, setWord, multiWord, mapWord, arrayWord)},
		{api.ESeq, api.ESeq, display(seqWord, 1)}, {api.ESet, api.ESet, display(setWord, 1)}, {api.EMulti, api.EMulti, display(multiWord, 1)},
		{api.EMap, api.EMap, display(mapWord, 2)},
		{api.EForall, api.EExists, (*checker).quantifier}, {api.ESetOf, api.ESetOf, (*checker).comprehension},
		{api.EMatch, api.EMatch, (*checker).match},
		{api.EOld, api.EOld, sameAs(0)}, {api.EFresh, api.EFresh, asks(boolWord, aClass, arrayWord)},
	}
}

// visit goes through the nodes of an expression.
func (c *checker) visit(node int) fault {
	n := item{c.tree[node], node}
	for _, kid := range n.Kids {
		if f := c.visitKid(n, kid); f.isError() {
			return f
		}
	}
	for kid := range c.operands(n) {
		if c.isLong(c.types[kid]) {
			return fault{node, api.ErrLong}
		}
	}
	t, e := c.rules[n.Op].apply(c, n)
	if e != api.OK {
		return fault{node, e}
	}
	c.note(node, t)
	return fault{}
}

// visitKid goes through the nodes of a child of an expression.
func (c *checker) visitKid(n item, kid int) fault {
	inside := c.tree[kid].Kids
	switch op := c.tree[kid].Op; {
	case op == api.ECase:
		if f := c.pattern(inside[0], c.types[n.Kids[0]]); f.isError() {
			return f
		}
		return c.visit(inside[1])
	case op == api.QTrigger:
		for _, term := range inside {
			if f := c.visit(term); f.isError() {
				return f
			}
		}
		return fault{}
	case op == api.QVar || isType(op):
		return fault{}
	}
	return c.visit(kid)
}

// operands visits the expressions that are children of an expression, also those in its triggers and cases.
func (c *checker) operands(n item) func(yield func(int) bool) {
	return func(yield func(int) bool) {
		for _, kid := range n.Kids {
			inside := []int{kid}
			if op := c.tree[kid].Op; op == api.QTrigger || op == api.ECase {
				inside = c.tree[kid].Kids
			}
			for _, operand := range inside {
				if isExpression(c.tree[operand].Op) && !yield(operand) {
					return
				}
			}
		}
	}
}

func isExpression(op int) bool {
	class, e := tree.Class(op)
	return e == api.OK && class == tree.Expression
}

// isLower reports whether a string can be the name of a local variable.
func isLower(s string) bool { return lex.IsName(s) && 'a' <= s[0] && s[0] <= 'z' }

// kid returns the type of a child.
func (c *checker) kid(n item, place int) *shape { return c.types[n.Kids[place]] }

// together unifies types with a first one, one after the other.
func (c *checker) together(first *shape, others ...*shape) api.Errno {
	for _, t := range others {
		if e := c.unify(first, t); e != api.OK {
			return e
		}
	}
	return api.OK
}

func always(head string) func(*checker, item) (*shape, api.Errno) {
	return func(*checker, item) (*shape, api.Errno) { return made(head), api.OK }
}

// sameAs is the rule for what has the type of a child.
func sameAs(place int) func(*checker, item) (*shape, api.Errno) {
	return func(c *checker, n item) (*shape, api.Errno) { return c.kid(n, place), api.OK }
}

// asks is the rule for what has a type of its own, if the type of its child is known and of one of some kinds.
func asks(head string, kinds ...string) func(*checker, item) (*shape, api.Errno) {
	return func(c *checker, n item) (*shape, api.Errno) {
		_, e := c.known(c.kid(n, 0), kinds...)
		return made(head), e
	}
}

func (c *checker) variable(n item) (*shape, api.Errno) {
	if owner := c.declaring[n.index]; owner >= 0 {
		return c.local(owner), api.OK
	}
	if t, found := c.given[n.Text]; found {
		return t, api.OK
	}
	d := c.named[n.Text]
	if d.Op != api.DConst {
		return nil, api.ErrUnknown
	}
	return c.use(c.typeOf(d), nil)
}

// local returns the type of the variable that a node declares.
func (c *checker) local(owner int) *shape {
	n := c.tree[owner]
	switch n.Op {
	case api.PVar:
		return c.types[owner]
	case api.ELet:
		return c.types[n.Kids[0]]
	}
	t, found := c.locals[owner]
	if !found {
		t = c.base(shapeAt(c.tree, n.Kids[0]), nil)
		c.locals[owner] = t
	}
	return t
}

func (c *checker) logical(n item) (*shape, api.Errno) {
	truth := made(boolWord)
	return truth, c.together(truth, list.Transform(n.Kids, func(kid int) *shape { return c.types[kid] })...)
}

// arithmetic is the rule for operations whose operands and result have one type.
func arithmetic(kinds ...string) func(*checker, item) (*shape, api.Errno) {
	return func(c *checker, n item) (*shape, api.Errno) {
		out := c.kid(n, 0)
		c.ask(n.index, out, kinds)
		return out, c.together(out, c.kid(n, len(n.Kids)-1))
	}
}

// comparison is the rule for what compares two operands of one type; without kinds it may be any type.
func comparison(kinds ...string) func(*checker, item) (*shape, api.Errno) {
	return func(c *checker, n item) (*shape, api.Errno) {
		if len(kinds) > 0 {
			c.ask(n.index, c.kid(n, 0), kinds)
		}
		return made(boolWord), c.unify(c.kid(n, 0), c.kid(n, 1))
	}
}

func (c *checker) membership(n item) (*shape, api.Errno) {
	in, e := c.known(c.kid(n, 1), collections()...)
	if e != api.OK {
		return nil, e
	}
	return made(boolWord), c.unify(c.kid(n, 0), in.args[0])
}

func (c *checker) shift(n item) (*shape, api.Errno) {
	c.ask(n.index, c.kid(n, 0), []string{bitsWord})
	return c.kid(n, 0), c.unify(c.kid(n, 1), made(intWord))
}

func (c *checker) conversion(n item) (*shape, api.Errno) {
	to := c.base(shapeAt(c.tree, n.Kids[1]), nil)
	for _, t := range [...]*shape{c.kid(n, 0), to} {
		c.ask(n.index, t, numbers())
	}
	return to, api.OK
}

func (c *checker) choice(n item) (*shape, api.Errno) {
	if e := c.unify(c.kid(n, 0), made(boolWord)); e != api.OK {
		return nil, e
	}
	return c.kid(n, 1), c.unify(c.kid(n, 1), c.kid(n, 2))
}

// application is the rule for calls of functions and for constructors.
func application(op int) func(*checker, item) (*shape, api.Errno) {
	return func(c *checker, n item) (*shape, api.Errno) {
		d := c.named[n.Text]
		if d.Op != op {
			return nil, api.ErrUnknown
		}
		k := c.callableOf(d)
		if len(k.takes) != len(n.Kids) {
			return nil, api.ErrArgs
		}
		values := c.instantiate(n.index, k)
		for i, kid := range n.Kids {
			want, e := c.use(k.takes[i], values)
			if e == api.OK {
				e = c.unify(c.types[kid], want)
			}
			if e != api.OK {
				return nil, e
			}
			c.flow(kid, k.takes[i], values)
		}
		return c.use(k.results[0], values)
	}
}

// instantiate returns new variables for the type parameters of what is used at a node.
func (c *checker) instantiate(node int, k callable) map[string]*shape {
	values := map[string]*shape{}
	var args []*shape
	for _, name := range k.parameters {
		arg := c.fresh()
		if _, twice := values[name]; !twice {
			values[name] = arg
		}
		args = append(args, arg)
	}
	if len(args) > 0 {
		c.now.instances = append(c.now.instances, instance{node, args})
	}
	return values
}

// member returns the declared type of a field or a destructor of a type, with the values of the type parameters.
func (c *checker) member(of *shape, name string) (*shape, map[string]*shape, api.Errno) {
	d := c.named[of.head]
	parameters := list.Transform(c.kids(d, api.DTypeParam), nameOf)
	if len(parameters) != len(of.args) {
		return nil, nil, api.ErrArgs
	}
	values := map[string]*shape{}
	for i, arg := range of.args {
		if _, twice := values[parameters[i]]; !twice {
			values[parameters[i]] = arg
		}
	}
	for _, holder := range append(c.kids(d, api.DCons), d) {
		for _, field := range c.kids(holder, api.DField, api.DGhostField) {
			if field.Text == name {
				return c.typeOf(field), values, api.OK
			}
		}
	}
	return nil, nil, api.ErrUnknown
}

func (c *checker) field(n item) (*shape, api.Errno) {
	of, e := c.known(c.kid(n, 0), aDatatype, aClass)
	if e != api.OK {
		return nil, e
	}
	declared, values, e := c.member(of, n.Text)
	if e != api.OK {
		return nil, e
	}
	return c.use(declared, values)
}

func (c *checker) test(n item) (*shape, api.Errno) {
	d := c.named[n.Text]
	if d.Op != api.DCons {
		return nil, api.ErrUnknown
	}
	k := c.callableOf(d)
	return made(boolWord), c.unify(c.kid(n, 0), k.results[0].put(c.instantiate(n.index, k)))
}

// entryOf returns the types of the index and of the element of a sequence, an array, a map or a multiset.
func entryOf(t *shape) (*shape, *shape) {
	switch t.head {
	case mapWord:
		return t.args[0], t.args[1]
	case multiWord:
		return t.args[0], made(intWord)
	}
	return made(intWord), t.args[0]
}

func (c *checker) element(n item) (*shape, api.Errno) {
	of, e := c.known(c.kid(n, 0), seqWord, arrayWord, mapWord, multiWord)
	if e != api.OK {
		return nil, e
	}
	index, element := entryOf(of)
	return element, c.unify(c.kid(n, 1), index)
}

func (c *checker) slice(n item) (*shape, api.Errno) {
	of, e := c.known(c.kid(n, 0), seqWord)
	if e != api.OK {
		return nil, e
	}
	return of, c.together(made(intWord), c.kid(n, 1), c.kid(n, 2))
}

func (c *checker) update(n item) (*shape, api.Errno) {
	of, e := c.known(c.kid(n, 0), seqWord, mapWord, multiWord)
	if e != api.OK {
		return nil, e
	}
	index, element := entryOf(of)
	if e := c.unify(c.kid(n, 1), index); e != api.OK {
		return nil, e
	}
	return of, c.unify(c.kid(n, 2), element)
}

// display is the rule for collections of elements, or of keys and values by turns.
func display(head string, step int) func(*checker, item) (*shape, api.Errno) {
	return func(c *checker, n item) (*shape, api.Errno) {
		out := made(head)
		for i := range step {
			if len(n.Kids) == 0 {
				out.args = append(out.args, c.fresh())
			} else {
				out.args = append(out.args, c.kid(n, i))
			}
		}
		for i := range n.Kids {
			if e := c.unify(out.args[i%step], c.kid(n, i)); e != api.OK {
				return nil, e
			}
		}
		return out, api.OK
	}
}

func (c *checker) quantifier(n item) (*shape, api.Errno) {
	truth := made(boolWord)
	return truth, c.unify(c.kid(n, len(n.Kids)-1), truth)
}

func (c *checker) comprehension(n item) (*shape, api.Errno) {
	return made(setWord, c.kid(n, 2)), c.unify(c.kid(n, 1), made(boolWord))
}

func (c *checker) match(n item) (*shape, api.Errno) {
	bodies := list.Transform(n.Kids[1:], func(kid int) *shape { return c.types[c.tree[kid].Kids[1]] })
	return bodies[0], c.together(bodies[0], bodies[1:]...)
}

// pattern goes through a pattern for values of a type, from the outside to the inside.
func (c *checker) pattern(node int, value *shape) fault {
	n := item{c.tree[node], node}
	c.note(node, value)
	switch n.Op {
	case api.PLit:
		return faultAt(node, c.unify(value, c.literal(n.Kids[0])))
	case api.PCons:
		return c.construction(n, value)
	}
	return fault{}
}

// literal takes down the type of the nodes of a literal, and returns it.
func (c *checker) literal(node int) *shape {
	t := made(intWord)
	if c.tree[node].Op == api.EBool {
		t = made(boolWord)
	}
	for _, kid := range c.tree[node].Kids {
		c.note(kid, t)
	}
	c.note(node, t)
	return t
}

// construction goes through the pattern of a constructor.
func (c *checker) construction(n item, value *shape) fault {
	d := c.named[n.Text]
	if d.Op != api.DCons {
		return fault{n.index, api.ErrUnknown}
	}
	k := c.callableOf(d)
	if len(k.takes) != len(n.Kids) {
		return fault{n.index, api.ErrArgs}
	}
	values := c.instantiate(n.index, k)
	if e := c.unify(value, k.results[0].put(values)); e != api.OK {
		return fault{n.index, e}
	}
	for i, kid := range n.Kids {
		t, e := c.use(k.takes[i], values)
		if e != api.OK {
			return fault{n.index, e}
		}
		if f := c.pattern(kid, t); f.isError() {
			return f
		}
	}
	return fault{}
}
