package parse

import (
	"strings"

	"entail/api"
	"entail/lex"
)

// typeWord is a type with a keyword, and the number of its arguments.
type typeWord struct {
	word          string
	op, arguments int
}

var typeWords = [...]typeWord{
	{"bool", api.TBool, 0}, {"int", api.TInt, 0}, {"real", api.TReal, 0}, {"seq", api.TSeq, 1}, {"set", api.TSet, 1},
	{"multiset", api.TMulti, 1}, {"map", api.TMap, 2}, {"array", api.TArray, 1},
}

// typeAt returns the type that has a token as its keyword.
func typeAt(t lex.Token) (typeWord, bool) {
	for _, w := range typeWords {
		if w.word == t.Text {
			return w, true
		}
	}
	return typeWord{}, false
}

// widthAt returns the width of the bit vectors that have a token as their keyword.
func widthAt(t lex.Token) (string, bool) {
	width, found := strings.CutPrefix(t.Text, "bv")
	return width, found && t.Kind == lex.Keyword
}

func beginsType(t lex.Token) bool {
	_, built := typeAt(t)
	_, bits := widthAt(t)
	return built || bits || isGlobalUpper(t)
}

func (p *parser) typ() *node { return p.nested(beginsType, p.anyType) }

func (p *parser) anyType() *node {
	t := p.next()
	if isGlobalUpper(t) {
		return p.typeName()
	}
	if width, found := widthAt(t); found {
		p.advance()
		return made(api.TBits, width, t.At)
	}
	w, found := typeAt(t)
	if !found {
		return p.missing()
	}
	p.advance()
	return made(w.op, "", t.At, p.typeArguments(w.arguments)...)
}

// typeArguments reads a number of types in angle brackets.
func (p *parser) typeArguments(count int) []*node {
	if count == 0 {
		return nil
	}
	p.expect("<")
	var kids []*node
	for i := range count {
		if i > 0 {
			p.expect(",")
		}
		kids = append(kids, p.typ())
	}
	p.closeAngle()
	return kids
}

// typeName reads a TName.
func (p *parser) typeName() *node {
	name := p.name(isGlobalUpper)
	var kids []*node
	if p.take("<") {
		kids = separated(&p.stream, p.typ)
		p.closeAngle()
	}
	return made(api.TName, name.Text, name.At, kids...)
}
