package parse

import (
	"entail/api"
	"entail/lex"
)

// statementForms are the statements that do not begin with a target.
func statementForms() []form {
	return []form{
		{"{", (*parser).block}, {"ghost", (*parser).local}, {"var", (*parser).local}, {"call", (*parser).call}, {"if", (*parser).branches},
		{"while", (*parser).loop}, {"match", (*parser).cased}, {"assert", (*parser).assertion}, {"assume", (*parser).command},
		{"print", (*parser).command}, {"return", (*parser).leave}, {"reveal", (*parser).reveal}, {"calc", (*parser).calculation},
		{"forall", (*parser).universal},
	}
}

func (p *parser) beginsStatement(t lex.Token) bool {
	return p.statements[t.Text] != nil || beginsPostfix(t)
}

func (p *parser) statement() *node { return p.nested(p.beginsStatement, p.anyStatement) }

func (p *parser) anyStatement() *node {
	if read := p.statements[p.next().Text]; read != nil {
		return read(p)
	}
	return p.targeted()
}

func (p *parser) block() *node {
	at := p.next().At
	p.expect("{")
	return made(api.SBlock, "", at, until(&p.stream, "}", p.statement)...)
}

// local reads an SVar or an SGhostVar.
func (p *parser) local() *node {
	at := p.next().At
	op := api.SVar
	if p.take("ghost") {
		op = api.SGhostVar
	}
	p.expect("var")
	name := p.name(isLower)
	p.expect(":")
	kids := []*node{p.typ()}
	if p.take(":=") {
		kids = append(kids, p.expression())
	}
	p.expect(";")
	return made(op, name.Text, at, kids...)
}

// targeted reads a statement that begins with a target.
func (p *parser) targeted() *node {
	first := p.next()
	begin := p.index
	target := p.postfix()
	alone := isLower(first) && p.index == begin+1
	switch {
	case alone && p.take(":|"):
		return p.ended(api.SChoose, first, p.expression())
	case alone && p.is(","):
		return p.callFor(p.targets(target))
	case !alone && target.op != api.EField && target.op != api.EIndex:
		return p.missing()
	}
	p.expect(":=")
	switch {
	case p.take("*"):
		return p.ended(api.SHavoc, lex.Token{At: first.At}, target)
	case alone && p.is("call"):
		return p.callFor(made(api.SLhs, "", first.At, target))
	case alone && p.take("new"):
		return p.creation(first)
	}
	return p.ended(api.SAssign, lex.Token{At: first.At}, target, p.expression())
}

// ended reads the semicolon of a statement that has the text and the offset of a token.
func (p *parser) ended(op int, t lex.Token, kids ...*node) *node {
	p.expect(";")
	return made(op, t.Text, t.At, kids...)
}

// targets reads the other targets of a call.
func (p *parser) targets(first *node) *node {
	kids := []*node{first}
	for p.take(",") {
		name := p.name(isLower)
		kids = append(kids, made(api.EVar, name.Text, name.At))
	}
	p.expect(":=")
	return made(api.SLhs, "", first.at, kids...)
}

// call reads an SCall without targets.
func (p *parser) call() *node { return p.callFor(made(api.SLhs, "", p.next().At)) }

// callFor reads an SCall from its keyword on.
func (p *parser) callFor(targets *node) *node {
	p.expect("call")
	name := p.name(isGlobalLower)
	kids := append([]*node{targets}, p.arguments()...)
	return p.ended(api.SCall, lex.Token{Text: name.Text, At: targets.at}, kids...)
}

// creation reads an SNew or an SNewArray behind the keyword.
func (p *parser) creation(target lex.Token) *node {
	if !p.is("array") {
		kids := []*node{p.typeName()}
		return p.ended(api.SNew, target, append(kids, p.arguments()...)...)
	}
	p.advance()
	kids := p.typeArguments(1)
	p.expect("(")
	kids = append(kids, p.expression())
	p.expect(",")
	kids = append(kids, p.expression())
	p.expect(")")
	return p.ended(api.SNewArray, target, kids...)
}

// branches reads an SAlt or an SIf.
func (p *parser) branches() *node {
	if p.token(1).Text != "{" {
		return p.conditional()
	}
	at := p.advance().At
	return made(api.SAlt, "", at, p.cases(api.SGuard, p.expression, p.block)...)
}

// conditional reads an SIf. Its condition does not begin with a set, also behind an else.
func (p *parser) conditional() *node {
	at := p.advance().At
	if p.is("{") {
		p.unexpected()
	}
	condition := p.expression()
	kids := []*node{condition, p.block()}
	if p.take("else") {
		kids = append(kids, p.otherwise())
	}
	return made(api.SIf, "", at, kids...)
}

// otherwise reads what stands behind an else.
func (p *parser) otherwise() *node {
	if p.is("if") {
		return p.nested(p.beginsStatement, p.conditional)
	}
	return p.block()
}

func (p *parser) loop() *node {
	at := p.advance().At
	kids := append([]*node{p.expression()}, p.clauses(loopClauses())...)
	return made(api.SWhile, "", at, append(kids, p.block())...)
}

// cased reads an SMatch.
func (p *parser) cased() *node {
	at := p.advance().At
	kids := []*node{p.expression()}
	return made(api.SMatch, "", at, append(kids, p.cases(api.SCase, p.pattern, p.block)...)...)
}

func (p *parser) assertion() *node {
	at := p.advance().At
	label := ""
	if isLower(p.next()) && p.token(1).Text == ":" {
		label = p.advance().Text
		p.advance()
	}
	kids := []*node{p.expression()}
	if p.take("by") {
		return made(api.SAssert, label, at, append(kids, p.block())...)
	}
	return p.ended(api.SAssert, lex.Token{Text: label, At: at}, kids...)
}

// command reads an SAssume or an SPrint.
func (p *parser) command() *node {
	word := p.advance()
	op := api.SAssume
	if word.Text == "print" {
		op = api.SPrint
	}
	return p.ended(op, lex.Token{At: word.At}, p.expression())
}

func (p *parser) leave() *node { return p.ended(api.SReturn, lex.Token{At: p.advance().At}) }

func (p *parser) reveal() *node {
	at := p.advance().At
	name := p.name(isGlobalLower)
	return p.ended(api.SReveal, lex.Token{Text: name.Text, At: at})
}

func (p *parser) calculation() *node {
	at := p.advance().At
	p.expect("{")
	kids := []*node{p.step()}
	for kids[len(kids)-1].text != "" {
		kids = append(kids, p.step())
	}
	p.expect("}")
	return made(api.SCalc, "", at, kids...)
}

// step reads an expression, and the relation and the hint behind it, if they are there.
func (p *parser) step() *node {
	at := p.next().At
	kids := []*node{p.expression()}
	p.expect(";")
	relation := p.next().Text
	switch relation {
	case "==", "==>", "<=", "<":
		p.advance()
	default:
		return made(api.SStep, "", at, kids...)
	}
	if p.is("{") {
		kids = append(kids, p.block())
	}
	return made(api.SStep, relation, at, kids...)
}

// universal reads an SForall.
func (p *parser) universal() *node {
	at := p.advance().At
	kids := separated(&p.stream, p.typed(api.QVar))
	p.expect("|")
	kids = append(kids, p.expression())
	ensures := p.next().At
	p.expect("ensures")
	kids = append(kids, made(api.CEnsures, "", ensures, p.expression()))
	return made(api.SForall, "", at, append(kids, p.block())...)
}
