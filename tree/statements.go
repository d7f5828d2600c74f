package tree

import (
	"slices"
	"strings"

	"entail/api"
)

// indented returns lines with two more spaces in front.
func indented(lines []string) []string {
	return transform(lines, func(line string) string { return "  " + line })
}

// below returns the lines of some nodes, one after the other.
func (p *printer) below(nodes []int) []string {
	return slices.Concat(transform(nodes, p.lines)...)
}

// enclosed returns lines between a line with a left brace and one with a right brace.
func enclosed(head string, lines []string) []string {
	return slices.Concat([]string{head + "{"}, indented(lines), []string{"}"})
}

// body returns a head and the statements of a block in braces.
func (p *printer) body(head string, block int) []string {
	return enclosed(head, p.below(p.tree[block].Kids))
}

// shielded puts an expression into parentheses if it would begin with a left brace.
func (p *printer) shielded(node int) string {
	text := p.text(node)
	if strings.HasPrefix(text, "{") {
		return "(" + text + ")"
	}
	return text
}

func (p *printer) block(n item) []string { return p.body("", n.index) }

func (p *printer) local(n item) string {
	text := "var " + n.Text + ": " + p.all(n.Kids, " := ") + ";"
	if n.Op == api.SGhostVar {
		return "ghost " + text
	}
	return text
}

// assignment is an SAssign, an SHavoc or an SChoose.
func (p *printer) assignment(n item) string {
	switch n.Op {
	case api.SChoose:
		return n.Text + " :| " + p.text(n.Kids[0]) + ";"
	case api.SHavoc:
		return p.shielded(n.Kids[0]) + " := *;"
	}
	return p.shielded(n.Kids[0]) + " := " + p.text(n.Kids[1]) + ";"
}

func (p *printer) methodCall(n item) string {
	text := "call " + n.Text + "(" + p.all(n.Kids[1:], ", ") + ");"
	if targets := p.text(n.Kids[0]); targets != "" {
		return targets + " := " + text
	}
	return text
}

// creation is an SNew or an SNewArray.
func (p *printer) creation(n item) string {
	class := p.text(n.Kids[0])
	if n.Op == api.SNewArray {
		class = "array<" + class + ">"
	}
	return n.Text + " := new " + class + "(" + p.all(n.Kids[1:], ", ") + ");"
}

// command is a word, with an expression or a name behind it, and a semicolon.
func (p *printer) command(n item) string {
	switch n.Op {
	case api.SAssume:
		return "assume " + p.list(n) + ";"
	case api.SPrint:
		return "print " + p.list(n) + ";"
	case api.SReveal:
		return "reveal " + n.Text + ";"
	}
	return "return;"
}

func (p *printer) clause(n item) string {
	words := [...]string{"requires", "ensures", "invariant", "decreases", "reads", "modifies"}
	return words[n.Op-api.CRequires] + " " + p.list(n)
}

// clauses returns the lines of the clauses of a node.
func (p *printer) clauses(n item) []string {
	return indented(p.below(p.withOp(n, api.CRequires, api.CEnsures, api.CInvariant, api.CDecreases, api.CReads, api.CModifies)))
}

func (p *printer) conditional(n item) []string {
	lines := p.body("if "+p.shielded(n.Kids[0])+" ", n.Kids[1])
	if len(n.Kids) == 2 {
		return lines
	}
	rest := p.lines(n.Kids[2])
	lines[len(lines)-1] += " else " + rest[0]
	return append(lines, rest[1:]...)
}

// alternatives is an SAlt or an SMatch.
func (p *printer) alternatives(n item) []string {
	if n.Op == api.SMatch {
		return enclosed("match "+p.text(n.Kids[0])+" ", p.below(n.Kids[1:]))
	}
	return enclosed("if ", p.below(n.Kids))
}

// guarded is an SGuard or an SCase.
func (p *printer) guarded(n item) []string {
	return p.body("case "+p.text(n.Kids[0])+" => ", n.Kids[1])
}

func (p *printer) loop(n item) []string {
	return slices.Concat([]string{"while " + p.text(n.Kids[0])}, p.clauses(n), p.lines(n.Kids[len(n.Kids)-1]))
}

func (p *printer) assertion(n item) []string {
	text := "assert "
	if n.Text != "" {
		text += n.Text + ": "
	}
	text += p.text(n.Kids[0])
	if len(n.Kids) == 1 {
		return []string{text + ";"}
	}
	return p.body(text+" by ", n.Kids[1])
}

func (p *printer) calculation(n item) []string { return enclosed("calc ", p.below(n.Kids)) }

// step is the expression of a step, and its relation with the hint, if it has them.
func (p *printer) step(n item) []string {
	lines := []string{p.shielded(n.Kids[0]) + ";"}
	switch {
	case n.Text == "":
		return lines
	case len(n.Kids) == 1:
		return append(lines, n.Text)
	}
	return append(lines, p.body(n.Text+" ", n.Kids[1])...)
}

func (p *printer) universal(n item) []string {
	variables := p.withOp(n, api.QVar)
	head := "forall " + p.all(variables, ", ") + " | " + p.text(n.Kids[len(variables)])
	return slices.Concat([]string{head}, p.clauses(n), p.lines(n.Kids[len(n.Kids)-1]))
}
