package tree

import (
	"strings"

	"entail/api"
)

// levelOf returns the level of an expression.
func levelOf(op int) int {
	switch {
	case isBetween(op, api.EAdd, api.EShr):
		return operators[op-api.EAdd].level
	case op == api.ENot, op == api.ENeg, op == api.ECard:
		return prefixLevel
	case isBetween(op, api.EField, api.EUpdate):
		return postfixLevel
	case op == api.EIf, op == api.ELet, isBetween(op, api.EForall, api.EMatch):
		return anyLevel
	}
	return atomLevel
}

// operand is an expression at a position that permits a least level.
func (p *printer) operand(node, least int) string {
	if levelOf(p.tree[node].Op) < least {
		return "(" + p.text(node) + ")"
	}
	return p.text(node)
}

func (p *printer) binary(n item) string {
	o := operators[n.Op-api.EAdd]
	left, right := o.level, o.level+1
	switch o.level {
	case operators[api.EImp-api.EAdd].level:
		left, right = o.level+1, o.level
	case operators[api.EEq-api.EAdd].level:
		left = o.level + 1
	}
	return p.operand(n.Kids[0], left) + " " + o.sign + " " + p.operand(n.Kids[1], right)
}

func (p *printer) prefixed(n item) string {
	sign := "!"
	switch n.Op {
	case api.ENeg:
		sign = "-"
	case api.ECard:
		sign = "#"
	}
	return sign + p.operand(n.Kids[0], prefixLevel)
}

func (p *printer) postfixed(n item) string {
	text := p.operand(n.Kids[0], postfixLevel)
	rest := transform(n.Kids[1:], p.text)
	switch n.Op {
	case api.EField:
		return text + "." + n.Text
	case api.EIs:
		return text + "." + n.Text + "?"
	case api.ESlice:
		return text + "[" + strings.Join(rest, "..") + "]"
	}
	return text + "[" + strings.Join(rest, " := ") + "]"
}

func (p *printer) conversion(n item) string { return "(" + p.all(n.Kids, " as ") + ")" }

// choice is an EIf or an ELet.
func (p *printer) choice(n item) string {
	parts := transform(n.Kids, p.text)
	if n.Op == api.ELet {
		return "var " + n.Text + " := " + parts[0] + "; " + parts[1]
	}
	return "if " + parts[0] + " then " + parts[1] + " else " + parts[2]
}

// display is a collection or a trigger.
func (p *printer) display(n item) string {
	switch n.Op {
	case api.ESeq:
		return "[" + p.list(n) + "]"
	case api.EMulti:
		return "multiset{" + p.list(n) + "}"
	case api.EMap:
		return "map[" + p.pairs(n) + "]"
	}
	return "{" + p.list(n) + "}"
}

// pairs returns the keys and values of an EMap.
func (p *printer) pairs(n item) string {
	var pairs []string
	for i := range len(n.Kids) / 2 {
		pairs = append(pairs, p.all(n.Kids[2*i:2*i+2], " := "))
	}
	return strings.Join(pairs, ", ")
}

// quantifier is an EForall, an EExists or an ESetOf.
func (p *printer) quantifier(n item) string {
	variables := p.all(p.withOp(n, api.QVar), ", ")
	body := p.text(n.Kids[len(n.Kids)-1])
	if n.Op == api.ESetOf {
		return "set " + variables + " | " + p.text(n.Kids[1]) + " :: " + body
	}
	word := "forall "
	if n.Op == api.EExists {
		word = "exists "
	}
	for _, trigger := range p.withOp(n, api.QTrigger) {
		variables += " " + p.text(trigger)
	}
	return word + variables + " :: " + body
}

// match is an EMatch or one of its cases.
func (p *printer) match(n item) string {
	if n.Op == api.ECase {
		return "case " + p.all(n.Kids, " => ")
	}
	return "match " + p.text(n.Kids[0]) + " { " + p.all(n.Kids[1:], " ") + " }"
}
