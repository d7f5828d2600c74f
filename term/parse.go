package term

import (
	"slices"
	"strings"

	"entail/api"
)

const (
	opening = "("
	closing = ")"
)

// token is a parenthesis or another word, with its offset; at the end of the text it is empty.
type token struct {
	text string
	at   int
}

// parser reads a term from a text.
type parser struct {
	*catalog
	text   string
	next   token
	scope  []api.Bound // the innermost variables are the last ones
	words  map[string]connective
	out    api.Terms
	failed api.Errno
	at     int
}

// parse returns the term of a text, or the offset of the first error.
func (c *catalog) parse(vars []api.Bound, text string) (api.Terms, int, api.Errno) {
	p := &parser{catalog: c, text: text, scope: slices.Clone(vars), words: map[string]connective{}}
	for _, k := range connectives() {
		p.words[k.word] = k
	}
	p.advance(0)
	p.expression()
	if p.failed == api.OK && p.next.text != "" {
		p.fail(api.ErrSyntax, p.next)
	}
	if p.failed != api.OK {
		return nil, p.at, p.failed
	}
	if e := CheckForm(p.out); e != api.OK {
		return nil, 0, e
	}
	if e := c.checkSorts(p.out, vars); e != api.OK {
		return nil, 0, e
	}
	return p.out, 0, api.OK
}

// advance reads the token that begins at an offset or behind it.
func (p *parser) advance(from int) {
	rest := strings.TrimLeft(p.text[from:], " \n")
	from = len(p.text) - len(rest)
	end := len(rest)
	for i, c := range rest {
		if c == '(' || c == ')' || c == ' ' || c == '\n' {
			end = i
			break
		}
	}
	if end == 0 && rest != "" {
		end = 1
	}
	p.next = token{rest[:end], from}
}

// take returns the next token.
func (p *parser) take() token {
	t := p.next
	p.advance(t.at + len(t.text))
	return t
}

// fail takes down the first error.
func (p *parser) fail(e api.Errno, t token) {
	if p.failed == api.OK {
		p.failed, p.at = e, t.at
	}
}

// require returns the next token, if it is the right one, and fails otherwise.
func (p *parser) require(is func(token) bool) token {
	t := p.take()
	if !is(t) {
		p.fail(api.ErrSyntax, t)
	}
	return t
}

// is returns a function that reports whether a token has a text.
func is(text string) func(token) bool { return func(t token) bool { return t.text == text } }

// isWord reports whether a token is neither a parenthesis nor the end.
func (t token) isWord() bool { return t.text != "" && t.text != opening && t.text != closing }

// isVariable reports whether a token can be the name of a variable.
func (t token) isVariable() bool { return t.isWord() && isVariable(t.text) }

// isNumeral reports whether a token begins like a numeral, so that it has to be one.
func (t token) isNumeral() bool {
	digits := strings.TrimPrefix(t.text, "-")
	return digits != "" && isDigit(digits[0])
}

// push appends a node above the last subterms, whose roots are given, and returns its index and its sort.
func (p *parser) push(n api.Term, kids ...int) int {
	n.Kids = kids
	p.out = append(p.out, n)
	return len(p.out) - 1
}

// expression reads a term and returns the index of its root.
func (p *parser) expression() int {
	t := p.take()
	switch {
	case p.failed != api.OK:
	case t.text == opening:
		return p.compound(t)
	case !t.isWord():
		p.fail(api.ErrSyntax, t)
	case t.text == "true" || t.text == "false":
		return p.push(Bool(t.text == "true")[0])
	case t.isNumeral():
		return p.numeral(t)
	case strings.HasPrefix(t.text, "?"):
		return p.variable(t)
	default:
		f := p.symbol(t)
		if len(f.Args) > 0 {
			p.fail(api.ErrArgs, t)
		}
		return p.push(api.Term{Op: api.LApp, Sort: f.Sort, Name: t.text})
	}
	return 0
}

// numeral reads a numeral.
func (p *parser) numeral(t token) int {
	sort := api.SortInt
	if strings.Contains(t.text, "/") {
		sort = api.SortReal
	}
	if !isNumeralOf(sort, t.text) {
		p.fail(api.ErrSyntax, t)
	}
	return p.push(api.Term{Op: api.LNum, Sort: sort, Name: t.text})
}

// variable reads a variable.
func (p *parser) variable(t token) int {
	name := t.text[1:]
	if !isVariable(name) {
		p.fail(api.ErrSyntax, t)
	}
	for i := range p.scope {
		if v := p.scope[len(p.scope)-1-i]; v.Name == name {
			return p.push(api.Term{Op: api.LVar, Sort: v.Sort, Name: name})
		}
	}
	p.fail(api.ErrUnknown, t)
	return 0
}

// symbol returns the function that a token names.
func (p *parser) symbol(t token) api.Fun {
	f, found := p.function(t.text)
	switch {
	case found:
	case isSymbol(t.text):
		p.fail(api.ErrUnknown, t)
	default:
		p.fail(api.ErrSyntax, t)
	}
	return f
}

// compound reads what is in parentheses, behind the first one.
func (p *parser) compound(open token) int {
	head := p.take()
	if k, found := p.words[head.text]; found {
		return p.connected(open, k)
	}
	switch {
	case head.text == quantifierWord(api.LForall):
		return p.quantifier(open, api.LForall)
	case head.text == quantifierWord(api.LExists):
		return p.quantifier(open, api.LExists)
	case !head.isWord():
		p.fail(api.ErrSyntax, head)
		return 0
	}
	return p.application(open, head)
}

// kids reads terms up to a closing parenthesis: at least and at most so many.
func (p *parser) kids(number bounds) []int {
	var kids []int
	for p.failed == api.OK && len(kids) < number[1] && (len(kids) < number[0] || p.next.text != closing) {
		kids = append(kids, p.expression())
	}
	p.require(is(closing))
	return kids
}

// sortsAt returns the sorts of nodes.
func (p *parser) sortsAt(nodes []int) []string {
	return kidSorts(p.out, api.Term{Kids: nodes})
}

// connected reads the children of a connective.
func (p *parser) connected(open token, k connective) int {
	kids := p.kids(forms()[k.op].children)
	if p.failed != api.OK {
		return 0
	}
	sort, right := k.sort(p.sortsAt(kids))
	if !right {
		p.fail(api.ErrSort, open)
	}
	return p.push(api.Term{Op: k.op, Sort: sort}, kids...)
}

// application reads the arguments of a function.
func (p *parser) application(open, head token) int {
	f := p.symbol(head)
	kids := p.kids(bounds{1, noLimit})
	if p.failed != api.OK {
		return 0
	}
	n := api.Term{Op: api.LApp, Sort: f.Sort, Name: f.Name}
	if e := p.checkApplication(p.sortsAt(kids), n); e != api.OK {
		p.fail(e, open)
	}
	return p.push(n, kids...)
}

// quantifier reads the variables, the triggers and the body of a quantifier.
func (p *parser) quantifier(open token, op int) int {
	vars := p.variables()
	around := len(p.scope)
	p.scope = append(p.scope, vars...)
	var kids []int
	for p.failed == api.OK && p.takeTrigger() {
		kids = append(kids, p.push(api.Term{Op: api.LTrigger}, p.kids(bounds{1, noLimit})...))
	}
	kids = append(kids, p.expression())
	p.require(is(closing))
	p.scope = p.scope[:around]
	if p.failed == api.OK && !isBool(p.out[kids[len(kids)-1]].Sort) {
		p.fail(api.ErrSort, open)
	}
	return p.push(api.Term{Op: op, Sort: api.SortBool, Vars: vars}, kids...)
}

// takeTrigger reads the beginning of a trigger, if it is there.
func (p *parser) takeTrigger() bool {
	before := p.next
	if before.text != opening {
		return false
	}
	p.take()
	if p.next.text != triggerWord {
		p.next = before
		return false
	}
	p.take()
	return true
}

// variables reads the variables of a quantifier.
func (p *parser) variables() []api.Bound {
	var vars []api.Bound
	take := p.require
	take(is(opening))
	for p.failed == api.OK && (len(vars) == 0 || p.next.text != closing) {
		take(is(opening))
		name := take(token.isVariable)
		sort := take(token.isWord)
		if p.isNoSort(sort.text) {
			p.fail(api.ErrSort, sort)
		}
		take(is(closing))
		vars = append(vars, api.Bound{Name: name.text, Sort: sort.text})
	}
	take(is(closing))
	return vars
}
