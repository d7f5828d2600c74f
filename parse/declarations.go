package parse

import (
	"slices"

	"entail/api"
	"entail/lex"
)

// clause is the keyword of a clause.
type clause struct {
	word string
	op   int
}

// loopClauses returns the clauses of a loop in the order that they have in a tree.
func loopClauses() []clause {
	return []clause{{"invariant", api.CInvariant}, {"decreases", api.CDecreases}, {"modifies", api.CModifies}}
}

// callClauses returns the clauses of a function or a method in the order that they have in a tree.
func callClauses() []clause {
	return []clause{
		{"requires", api.CRequires}, {"reads", api.CReads}, {"modifies", api.CModifies}, {"ensures", api.CEnsures}, {"decreases", api.CDecreases},
	}
}

// clauses reads clauses in any order, and returns them in that of the tree.
func (p *parser) clauses(kinds []clause) []*node {
	var written []*node
	for t := range p.ahead() {
		i := slices.IndexFunc(kinds, func(c clause) bool { return c.word == t.Text })
		if i < 0 {
			break
		}
		op := kinds[i].op
		if op == api.CDecreases && slices.ContainsFunc(written, func(n *node) bool { return n.op == op }) {
			p.fail(api.ErrTwice, t.At)
			break
		}
		written = append(written, p.clause(op))
	}
	place := func(n *node) int { return slices.IndexFunc(kinds, func(c clause) bool { return c.op == n.op }) }
	ordered := slices.Clone(written)
	slices.SortStableFunc(ordered, func(a, b *node) int { return place(a) - place(b) })
	return ordered
}

func (p *parser) clause(op int) *node {
	at := p.advance().At
	if op == api.CDecreases {
		return made(op, "", at, separated(&p.stream, p.expression)...)
	}
	return made(op, "", at, p.expression())
}

// declarationForms are the declarations that have no marks.
func declarationForms() []form {
	return []form{
		{"datatype", (*parser).datatype}, {"type", (*parser).subset}, {"class", (*parser).class}, {"const", (*parser).constant},
	}
}

func (p *parser) declaration() *node {
	if read := p.declarations[p.next().Text]; read != nil {
		return read(p)
	}
	return p.callable()
}

func (p *parser) datatype() *node {
	at := p.advance().At
	name := p.name(isGlobalUpper)
	kids := p.typeParameters()
	p.expect("=")
	kids = append(kids, p.constructorDeclaration())
	for p.take("|") {
		kids = append(kids, p.constructorDeclaration())
	}
	return made(api.DDatatype, name.Text, at, kids...)
}

func (p *parser) typeParameters() []*node {
	if !p.is("<") {
		return nil
	}
	p.advance()
	kids := separated(&p.stream, func() *node {
		name := p.name(isUpper)
		return made(api.DTypeParam, name.Text, name.At)
	})
	p.expect(">")
	return kids
}

func (p *parser) constructorDeclaration() *node {
	name := p.name(isGlobalUpper)
	var fields []*node
	if p.is("(") {
		fields = enclosed(&p.stream, "(", ")", p.typed(api.DField))
	}
	return made(api.DCons, name.Text, name.At, fields...)
}

func (p *parser) subset() *node {
	at := p.advance().At
	name := p.name(isGlobalUpper)
	p.expect("=")
	variable := p.typed(api.DParam)()
	p.expect("|")
	condition := p.expression()
	p.expect("witness")
	return made(api.DSubset, name.Text, at, variable, condition, p.expression())
}

func (p *parser) class() *node {
	at := p.advance().At
	name := p.name(isGlobalUpper)
	p.expect("{")
	return made(api.DClass, name.Text, at, until(&p.stream, "}", p.field)...)
}

// field reads a DField or a DGhostField of a class.
func (p *parser) field() *node {
	first := p.next()
	ghost := p.take("ghost")
	p.expect("var")
	n := p.typed(api.DField)()
	p.expect(";")
	if ghost {
		n.op, n.at = api.DGhostField, first.At
	}
	return n
}

func (p *parser) constant() *node {
	at := p.advance().At
	name := p.name(isGlobalLower)
	p.expect(":")
	typ := p.typ()
	p.expect(":=")
	value := p.expression()
	p.expect(";")
	return made(api.DConst, name.Text, at, typ, value)
}

// callable reads a function or a method.
func (p *parser) callable() *node {
	at := p.next().At
	kids := p.marks()
	method := p.is("method")
	if !method && !p.is("function") {
		return p.missing()
	}
	p.advance()
	name := p.name(isGlobalLower)
	kids = append(kids, p.typeParameters()...)
	kids = append(kids, enclosed(&p.stream, "(", ")", p.parameter)...)
	op, results, body := api.DFunction, p.result, p.functionBody
	if method {
		op, results, body = api.DMethod, p.outs, p.block
	}
	kids = append(kids, results()...)
	kids = append(kids, p.clauses(callClauses())...)
	if p.is("{") {
		kids = append(kids, body())
	}
	return made(op, name.Text, at, kids...)
}

func (p *parser) marks() []*node {
	var marks []*node
	for t := range p.ahead() {
		switch t.Text {
		case "ghost", "opaque", "hidden", "least", "greatest", "lemma":
			marks = append(marks, made(api.DMark, p.advance().Text, t.At))
			continue
		case "fuel":
			marks = append(marks, p.fuel())
			continue
		}
		break
	}
	return marks
}

// fuel reads a DMark with a number of one digit.
func (p *parser) fuel() *node {
	word := p.advance()
	number := p.next()
	if number.Kind != lex.Number || len(number.Text) > 1 {
		return p.missing()
	}
	return made(api.DMark, word.Text+" "+p.advance().Text, word.At)
}

// parameter reads a DParam or a DGhostParam.
func (p *parser) parameter() *node {
	first := p.next()
	ghost := p.take("ghost")
	n := p.typed(api.DParam)()
	if ghost {
		n.op, n.at = api.DGhostParam, first.At
	}
	return n
}

// result reads the type of a function.
func (p *parser) result() []*node {
	p.expect(":")
	typ := p.typ()
	return []*node{made(api.DResult, "", typ.at, typ)}
}

// outs reads the results of a method.
func (p *parser) outs() []*node {
	if !p.take("returns") {
		return nil
	}
	p.expect("(")
	kids := separated(&p.stream, p.typed(api.DOut))
	p.expect(")")
	return kids
}

func (p *parser) functionBody() *node {
	p.expect("{")
	n := p.expression()
	p.expect("}")
	return n
}
