package parse

import (
	"entail/api"
	"entail/lex"
)

// expressionForms are the expressions that begin with a keyword of their own and reach as far as they can.
func expressionForms() []form {
	return []form{
		{"if", (*parser).choice}, {"var", (*parser).let}, {"forall", (*parser).quantifier}, {"exists", (*parser).quantifier},
		{"set", (*parser).setOf}, {"match", (*parser).match},
	}
}

// beginsPostfix reports whether a postfix expression can begin with a token.
func beginsPostfix(t lex.Token) bool {
	switch t.Kind {
	case lex.Name, lex.Number, lex.Decimal:
		return true
	}
	switch t.Text {
	case "true", "false", "(", "[", "{", "multiset", "map", "old", "fresh":
		return true
	}
	return false
}

// beginsOperand reports whether an operand of a unary operator can begin with a token.
func beginsOperand(t lex.Token) bool {
	return beginsPostfix(t) || t.Text == negation || t.Text == "-" || t.Text == "#"
}

func (p *parser) beginsExpression(t lex.Token) bool {
	return beginsOperand(t) || p.expressions[t.Text] != nil
}

func (p *parser) expression() *node { return p.nested(p.beginsExpression, p.anyExpression) }

func (p *parser) anyExpression() *node {
	if read := p.expressions[p.next().Text]; read != nil {
		return read(p)
	}
	return p.binary(0)
}

// choice reads an EIf.
func (p *parser) choice() *node {
	at := p.advance().At
	condition := p.expression()
	p.expect("then")
	first := p.expression()
	p.expect("else")
	return made(api.EIf, "", at, condition, first, p.expression())
}

// let reads an ELet.
func (p *parser) let() *node {
	at := p.advance().At
	name := p.name(isLower)
	p.expect(":=")
	value := p.expression()
	p.expect(";")
	return made(api.ELet, name.Text, at, value, p.expression())
}

// typed returns a rule for a name with its type.
func (p *parser) typed(op int) func() *node {
	return func() *node {
		name := p.name(isLower)
		p.expect(":")
		return made(op, name.Text, name.At, p.typ())
	}
}

// quantifier reads an EForall or an EExists.
func (p *parser) quantifier() *node {
	word := p.advance()
	op := api.EForall
	if word.Text == "exists" {
		op = api.EExists
	}
	kids := separated(&p.stream, p.typed(api.QVar))
	for p.is("{") {
		kids = append(kids, p.trigger())
	}
	p.expect("::")
	return made(op, "", word.At, append(kids, p.expression())...)
}

func (p *parser) trigger() *node {
	at := p.next().At
	p.expect("{")
	terms := separated(&p.stream, p.expression)
	p.expect("}")
	return made(api.QTrigger, "", at, terms...)
}

// setOf reads an ESetOf.
func (p *parser) setOf() *node {
	at := p.advance().At
	variable := p.typed(api.QVar)()
	p.expect("|")
	condition := p.expression()
	p.expect("::")
	return made(api.ESetOf, "", at, variable, condition, p.expression())
}

// match reads an EMatch.
func (p *parser) match() *node {
	at := p.advance().At
	kids := []*node{p.expression()}
	return made(api.EMatch, "", at, append(kids, p.cases(api.ECase, p.pattern, p.expression)...)...)
}

// cases reads one or more cases in braces: what stands behind the keyword, and what stands behind the arrow.
func (p *parser) cases(op int, head, body func() *node) []*node {
	p.expect("{")
	if !p.is("case") {
		p.unexpected()
	}
	return until(&p.stream, "}", func() *node {
		at := p.next().At
		p.expect("case")
		first := head()
		p.expect("=>")
		return made(op, "", at, first, body())
	})
}

// postfix reads an expression with the fields, indices and so on behind it.
func (p *parser) postfix() *node {
	n := p.primary()
	for t := range p.ahead() {
		switch t.Text {
		case ".":
			n = p.member(n)
			continue
		case "[":
			n = p.subscript(n)
			continue
		}
		break
	}
	return n
}

// member reads a field or a test for a constructor.
func (p *parser) member(of *node) *node {
	at := p.advance().At
	if isLower(p.next()) {
		return made(api.EField, p.advance().Text, at, of)
	}
	name := p.name(isGlobalUpper)
	p.expect("?")
	return made(api.EIs, name.Text, at, of)
}

// subscript reads an index, a slice or an update.
func (p *parser) subscript(of *node) *node {
	at := p.advance().At
	op, kids := api.EIndex, []*node{of, p.expression()}
	switch {
	case p.take(".."):
		op, kids = api.ESlice, append(kids, p.expression())
	case p.take(":="):
		op, kids = api.EUpdate, append(kids, p.expression())
	}
	p.expect("]")
	return made(op, "", at, kids...)
}

func (p *parser) primary() *node {
	t := p.next()
	switch t.Kind {
	case lex.Number:
		return made(api.EInt, p.advance().Text, t.At)
	case lex.Decimal:
		return made(api.EReal, p.advance().Text, t.At)
	case lex.Name:
		return p.named()
	}
	switch t.Text {
	case "true", "false":
		return made(api.EBool, p.advance().Text, t.At)
	case "(":
		return p.parenthesized()
	case "[":
		return made(api.ESeq, "", t.At, enclosed(&p.stream, "[", "]", p.expression)...)
	case "{":
		return made(api.ESet, "", t.At, enclosed(&p.stream, "{", "}", p.expression)...)
	case "multiset":
		p.advance()
		return made(api.EMulti, "", t.At, enclosed(&p.stream, "{", "}", p.expression)...)
	case "map":
		return p.mapDisplay()
	case "old", "fresh":
		return p.state()
	}
	return p.missing()
}

func (p *parser) arguments() []*node { return enclosed(&p.stream, "(", ")", p.expression) }

// named reads a variable, a call or a constructor.
func (p *parser) named() *node {
	t := p.advance()
	op, kids := api.EVar, []*node(nil)
	if isGlobalUpper(t) {
		op = api.ECons
	}
	if p.is("(") {
		kids = p.arguments()
		if op == api.EVar {
			op = api.ECall
		}
	}
	return made(op, t.Text, t.At, kids...)
}

// parenthesized reads an expression in parentheses, or an EAs.
func (p *parser) parenthesized() *node {
	at := p.advance().At
	n := p.expression()
	if p.take("as") {
		n = made(api.EAs, "", at, n, p.typ())
	}
	p.expect(")")
	return n
}

func (p *parser) mapDisplay() *node {
	at := p.advance().At
	var kids []*node
	enclosed(&p.stream, "[", "]", func() *node {
		kids = append(kids, p.expression())
		p.expect(":=")
		kids = append(kids, p.expression())
		return nil
	})
	return made(api.EMap, "", at, kids...)
}

// state reads an EOld or an EFresh.
func (p *parser) state() *node {
	word := p.advance()
	op := api.EOld
	if word.Text == "fresh" {
		op = api.EFresh
	}
	p.expect("(")
	n := made(op, "", word.At, p.expression())
	p.expect(")")
	return n
}

func beginsPattern(t lex.Token) bool {
	switch t.Text {
	case "_", "-", "true", "false":
		return true
	}
	return t.Kind == lex.Number || isLower(t) || isGlobalUpper(t)
}

func (p *parser) pattern() *node { return p.nested(beginsPattern, p.anyPattern) }

func (p *parser) anyPattern() *node {
	t := p.next()
	switch {
	case isLower(t):
		return made(api.PVar, p.advance().Text, t.At)
	case isGlobalUpper(t):
		return p.constructor()
	case t.Text == "_":
		p.advance()
		return made(api.PWild, "", t.At)
	case t.Text == "true", t.Text == "false":
		return made(api.PLit, "", t.At, made(api.EBool, p.advance().Text, t.At))
	case t.Text == "-":
		p.advance()
		return made(api.PLit, "", t.At, made(api.ENeg, "", t.At, p.number()))
	}
	return made(api.PLit, "", t.At, p.number())
}

// constructor reads a PCons.
func (p *parser) constructor() *node {
	t := p.advance()
	var kids []*node
	if p.is("(") {
		kids = enclosed(&p.stream, "(", ")", p.pattern)
	}
	return made(api.PCons, t.Text, t.At, kids...)
}

func (p *parser) number() *node {
	t := p.next()
	if t.Kind != lex.Number {
		return p.missing()
	}
	return made(api.EInt, p.advance().Text, t.At)
}
