package parse

import (
	"entail/api"
	"entail/lex"
)

// The levels of expressions that are not binary operations.
const (
	anyLevel     = -1
	prefixLevel  = 9
	postfixLevel = 10
	atomLevel    = 11
)

const (
	membership = "in"
	negation   = "!"
)

// sides are the least levels of the two operands of a binary operation.
type sides [2]int

// operator is a binary operation. A linked one may stand in a chain; the operands of a flipped one change places in
// the tree; a negated one has a second token, and comes under an ENot.
type operator struct {
	sign                     string
	op, level                int
	sides                    sides
	linked, flipped, negated bool
}

var operatorTable = [...]operator{
	{sign: "<==>", op: api.EIff, level: 0, sides: sides{0, 1}},
	{sign: "==>", op: api.EImp, level: 1, sides: sides{2, 1}},
	{sign: "||", op: api.EOr, level: 2, sides: sides{2, 3}},
	{sign: "&&", op: api.EAnd, level: 3, sides: sides{3, 4}},
	{sign: "==", op: api.EEq, level: 4, sides: sides{5, 5}, linked: true},
	{sign: "!=", op: api.ENe, level: 4, sides: sides{5, 5}},
	{sign: "<", op: api.ELt, level: 4, sides: sides{5, 5}, linked: true},
	{sign: "<=", op: api.ELe, level: 4, sides: sides{5, 5}, linked: true},
	{sign: ">", op: api.ELt, level: 4, sides: sides{5, 5}, linked: true, flipped: true},
	{sign: ">=", op: api.ELe, level: 4, sides: sides{5, 5}, linked: true, flipped: true},
	{sign: membership, op: api.EIn, level: 4, sides: sides{5, 5}},
	{sign: negation, op: api.EIn, level: 4, sides: sides{5, 5}, negated: true},
	{sign: "&", op: api.EBitAnd, level: 5, sides: sides{5, 6}},
	{sign: "|", op: api.EBitOr, level: 5, sides: sides{5, 6}},
	{sign: "^", op: api.EBitXor, level: 5, sides: sides{5, 6}},
	{sign: "<<", op: api.EShl, level: 6, sides: sides{6, 7}},
	{sign: ">>", op: api.EShr, level: 6, sides: sides{6, 7}},
	{sign: "+", op: api.EAdd, level: 7, sides: sides{7, 8}},
	{sign: "-", op: api.ESub, level: 7, sides: sides{7, 8}},
	{sign: "*", op: api.EMul, level: 8, sides: sides{8, 9}},
	{sign: "/", op: api.EDiv, level: 8, sides: sides{8, 9}},
	{sign: "%", op: api.EMod, level: 8, sides: sides{8, 9}},
}

// operatorsByToken returns the operators by their first tokens.
func operatorsByToken() map[lex.Token]operator {
	found := map[lex.Token]operator{}
	for _, o := range operatorTable {
		kind := lex.Sign
		if o.sign == membership {
			kind = lex.Keyword
		}
		found[lex.Token{Kind: kind, Text: o.sign}] = o
	}
	return found
}

// levelOf returns the level of an expression.
func levelOf(op int) int {
	for _, o := range operatorTable {
		if o.op == op {
			return o.level
		}
	}
	switch op {
	case api.ENot, api.ENeg, api.ECard:
		return prefixLevel
	case api.EField, api.EIs, api.EIndex, api.ESlice, api.EUpdate:
		return postfixLevel
	case api.EIf, api.ELet, api.EForall, api.EExists, api.ESetOf, api.EMatch:
		return anyLevel
	}
	return atomLevel
}

// upcoming returns the operator of a level at the next token.
func (p *parser) upcoming(level int) (operator, bool) {
	o, found := p.operators[plain(p.next())]
	if !found || o.level != level {
		return operator{}, false
	}
	if o.negated && plain(p.token(1)) != (lex.Token{Kind: lex.Keyword, Text: membership}) {
		return operator{}, false
	}
	return o, true
}

// pass reads the tokens of an operator, and returns the offset of the first one.
func (p *parser) pass(o operator) int {
	at := p.advance().At
	if o.negated {
		p.advance()
	}
	return at
}

// applied returns the operation on two operands.
func (o operator) applied(at int, left, right *node) *node {
	if o.flipped {
		left, right = right, left
	}
	n := made(o.op, "", at, left, right)
	if o.negated {
		return made(api.ENot, "", at, n)
	}
	return n
}

// binary reads an operation of a level, or one of a higher level.
func (p *parser) binary(level int) *node {
	if level == prefixLevel {
		return p.unary()
	}
	left := p.binary(level + 1)
operators:
	for range p.ahead() {
		o, found := p.upcoming(level)
		switch {
		case !found:
			break operators
		case o.sides == sides{level, level + 1}:
			at := p.pass(o)
			left = o.applied(at, left, p.binary(level+1))
		case o.sides == sides{level + 1, level}:
			at := p.pass(o)
			return o.applied(at, left, p.nested(beginsOperand, func() *node { return p.binary(level) }))
		default:
			return p.chain(left, level)
		}
	}
	return left
}

// chain reads a comparison, and those that follow it.
func (p *parser) chain(left *node, level int) *node {
	o, _ := p.upcoming(level)
	at := p.pass(o)
	right := p.binary(level + 1)
	whole := o.applied(at, left, right)
	for {
		next, found := p.upcoming(level)
		if !found {
			return whole
		}
		if !o.linked || !next.linked {
			p.unexpected()
			return whole
		}
		o, left = next, right
		at = p.pass(o)
		right = p.binary(level + 1)
		whole = made(api.EAnd, "", at, whole, o.applied(at, left, right))
		if whole.size > api.MaxNodes {
			p.fail(api.ErrMany, at)
		}
	}
}

// unary reads an operand.
func (p *parser) unary() *node {
	op := api.ENot
	switch p.next().Text {
	case negation:
	case "-":
		op = api.ENeg
	case "#":
		op = api.ECard
	default:
		return p.postfix()
	}
	at := p.advance().At
	return made(op, "", at, p.nested(beginsOperand, p.unary))
}
