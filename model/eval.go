package model

import (
	"maps"
	"slices"

	"entail/api"
	"entail/list"
	"entail/num"
)

// evaluation is a term with the model in which it is evaluated. A lazy one evaluates no more children than are needed to
// know a result.
type evaluation struct {
	*interpretation
	api.Terms
	lazy   bool
	choose func(table int, args []int) int
	root   rule
	values []int // the present values of variables, by their places
	stack  []int
	steps  int
}

// rule evaluates a node.
type rule func() (int, api.Errno)

// evaluationOf returns the evaluation of a term that is right, with values for its free variables. The results of functions
// are chosen by a function.
func evaluationOf(in *interpretation, t api.Terms, free map[string]int, lazy bool, choose func(int, []int) int) *evaluation {
	e := &evaluation{interpretation: in, Terms: t, lazy: lazy, choose: choose}
	scope := map[string]int{}
	for name, value := range free {
		scope[name] = e.place(value)
	}
	e.root = e.rule(len(t)-1, scope)
	return e
}

// place adds a place for the value of a variable.
func (e *evaluation) place(value int) int {
	e.values = append(e.values, value)
	return len(e.values) - 1
}

// run evaluates the term.
func (e *evaluation) run() (int, api.Errno) {
	e.steps, e.stack = 0, e.stack[:0]
	return e.value(e.root)
}

// value evaluates a node, which is a step.
func (e *evaluation) value(r rule) (int, api.Errno) {
	e.steps++
	if e.steps > api.MaxSteps {
		return 0, api.ErrLimit
	}
	return r()
}

// rule returns how a node is evaluated, where variables have places.
func (e *evaluation) rule(node int, scope map[string]int) rule {
	n := e.Terms[node]
	switch n.Op {
	case api.LVar:
		return variable{e, scope[n.Name]}.value
	case api.LForall, api.LExists:
		return e.quantifier(n, scope)
	}
	kids := list.Transform(n.Kids, func(kid int) rule { return e.rule(kid, scope) })
	if needed := neededOf(n.Op); e.lazy && needed != nil {
		return choice{e, kids, needed}.value
	}
	return operation{e, kids, e.operator(n)}.value
}

// variable is an occurrence of a variable that has a place.
type variable struct {
	*evaluation
	at int
}

func (v variable) value() (int, api.Errno) { return v.values[v.at], api.OK }

// quantifier is a quantifier with the places of its variables and the values that they take.
type quantifier struct {
	*evaluation
	places []int
	ranges [][]int
	body   rule
	usual  int // the result, unless the body has the other one
}

func (e *evaluation) quantifier(n api.Term, scope map[string]int) rule {
	q := quantifier{evaluation: e, usual: truth(n.Op == api.LForall)}
	inside := maps.Clone(scope)
	for _, v := range n.Vars {
		values, _ := e.rangeOf(e.sort(v.Sort))
		q.ranges = append(q.ranges, values)
		inside[v.Name] = e.place(no)
		q.places = append(q.places, inside[v.Name])
	}
	q.body = e.rule(n.Kids[len(n.Kids)-1], inside)
	return q.value
}

func (q quantifier) value() (int, api.Errno) {
	for taken := range combinations(q.ranges) {
		for i, at := range q.places {
			q.values[at] = taken[i]
		}
		result, e := q.evaluation.value(q.body)
		if e != api.OK || result != q.usual {
			return result, e
		}
	}
	return q.usual, api.OK
}

// operator is what is done with the values of the children of a node.
type operator func(p *pool, args []int) (int, api.Errno)

// operation is a node all of whose children are evaluated.
type operation struct {
	*evaluation
	kids  []rule
	apply operator
}

func (o operation) value() (int, api.Errno) {
	base := len(o.stack)
	for _, kid := range o.kids {
		arg, e := o.evaluation.value(kid)
		if e != api.OK {
			return 0, e
		}
		o.stack = append(o.stack, arg)
	}
	result, e := o.apply(o.pool, o.stack[base:])
	o.stack = o.stack[:base]
	return result, e
}

// operator returns what is done at a node.
func (e *evaluation) operator(n api.Term) operator {
	switch n.Op {
	case api.LNum:
		kinds := map[string]int{api.SortInt: api.VInt, api.SortReal: api.VReal}
		return constantly(e.number(kinds[n.Sort], n.Name))
	case api.LApp:
		return e.application(e.symbol(n.Name))
	}
	operators := [api.TermOps]operator{
		api.LTrue: constantly(yes), api.LFalse: constantly(no),
		api.LNot: deciding(func(a []int) bool { return a[0] == no }),
		api.LAnd: deciding(func(a []int) bool { return !slices.Contains(a, no) }), api.LOr: deciding(func(a []int) bool { return slices.Contains(a, yes) }),
		api.LImp: deciding(func(a []int) bool { return a[0] == no || a[1] == yes }), api.LIff: deciding(areSame), api.LEq: deciding(areSame),
		api.LIte: func(_ *pool, a []int) (int, api.Errno) { return a[2-a[0]], api.OK },
		api.LAdd: computing(num.Add, num.AddReal), api.LSub: computing(num.Sub, num.SubReal), api.LMul: computing(num.Mul, num.MulReal),
		api.LLt: comparing(func(way int) bool { return way < 0 }), api.LLe: comparing(func(way int) bool { return way <= 0 }),
	}
	return operators[n.Op]
}

func areSame(a []int) bool { return a[0] == a[1] }

func constantly(value int) operator {
	return func(*pool, []int) (int, api.Errno) { return value, api.OK }
}

func deciding(holds func(args []int) bool) operator {
	return func(_ *pool, args []int) (int, api.Errno) { return truth(holds(args)), api.OK }
}

// computing returns an operation on two integers or two fractions.
func computing(integers, fractions func(a, b string) (string, api.Errno)) operator {
	return func(p *pool, args []int) (int, api.Errno) {
		a, b := p.values[args[0]], p.values[args[1]]
		apply := integers
		if a.kind == api.VReal {
			apply = fractions
		}
		s, e := apply(a.num, b.num)
		if e != api.OK {
			return 0, e
		}
		return p.number(a.kind, s), api.OK
	}
}

// comparing returns a comparison of two integers or two fractions.
func comparing(holds func(way int) bool) operator {
	return func(p *pool, args []int) (int, api.Errno) {
		a, b := p.values[args[0]], p.values[args[1]]
		compare := num.Compare
		if a.kind == api.VReal {
			compare = num.CompareReal
		}
		way, _ := compare(a.num, b.num)
		return truth(holds(way)), api.OK
	}
}

// application returns the application of a function.
func (e *evaluation) application(s symbol) operator {
	return func(_ *pool, args []int) (int, api.Errno) { return e.apply(s, args, e.choose) }
}

// needed evaluates those children of a node that are needed to know the result.
type needed func(e *evaluation, kids []rule) (int, api.Errno)

// choice is a node not all of whose children are evaluated.
type choice struct {
	*evaluation
	kids   []rule
	needed needed
}

func (c choice) value() (int, api.Errno) { return c.needed(c.evaluation, c.kids) }

// neededOf returns how the nodes with an Op choose, if they do so.
func neededOf(op int) needed {
	switch op {
	case api.LAnd:
		return until(no)
	case api.LOr:
		return until(yes)
	case api.LImp:
		return (*evaluation).implication
	case api.LIte:
		return (*evaluation).conditional
	}
	return nil
}

// until evaluates children until one has a result that decides.
func until(decides int) needed {
	return func(e *evaluation, kids []rule) (int, api.Errno) {
		for _, kid := range kids {
			result, f := e.value(kid)
			if f != api.OK || result == decides {
				return result, f
			}
		}
		return yes - decides, api.OK
	}
}

func (e *evaluation) implication(kids []rule) (int, api.Errno) {
	premise, f := e.value(kids[0])
	if f != api.OK || premise == no {
		return yes, f
	}
	return e.value(kids[1])
}

func (e *evaluation) conditional(kids []rule) (int, api.Errno) {
	condition, f := e.value(kids[0])
	if f != api.OK {
		return 0, f
	}
	return e.value(kids[2-condition])
}
