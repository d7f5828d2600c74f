package tree

import (
	"slices"

	"entail/api"
)

// typeDeclaration is a DDatatype or a DSubset.
func (p *printer) typeDeclaration(n item) string {
	if n.Op == api.DSubset {
		parts := transform(n.Kids, p.text)
		return "type " + n.Text + " = " + parts[0] + " | " + parts[1] + " witness " + parts[2]
	}
	return "datatype " + n.Text + p.typeParameters(n) + " = " + p.all(p.withOp(n, api.DCons), " | ")
}

func (p *printer) typeParameters(n item) string {
	return angles(p.all(p.withOp(n, api.DTypeParam), ", "))
}

func (p *printer) constant(n item) string {
	return "const " + n.Text + ": " + p.all(n.Kids, " := ") + ";"
}

// class has a line for each field; a field that is not ghost has no line of its own elsewhere.
func (p *printer) class(n item) []string {
	return enclosed("class "+n.Text+" ", transform(n.Kids, func(kid int) string {
		if p.tree[kid].Op == api.DField {
			return "var " + p.text(kid) + ";"
		}
		return p.text(kid)
	}))
}

// callable is a function or a method.
func (p *printer) callable(n item) []string {
	head := ""
	for _, mark := range p.withOp(n, api.DMark) {
		head += p.text(mark) + " "
	}
	word := "function "
	if n.Op == api.DMethod {
		word = "method "
	}
	parameters := p.all(p.withOp(n, api.DParam, api.DGhostParam), ", ")
	head += word + n.Text + p.typeParameters(n) + "(" + parameters + ")" + p.results(n)
	return slices.Concat([]string{head}, p.clauses(n), p.bodyOf(n))
}

// results is the type of a function, or the results of a method.
func (p *printer) results(n item) string {
	if n.Op == api.DFunction {
		return ": " + p.all(p.withOp(n, api.DResult), "")
	}
	if outs := p.withOp(n, api.DOut); len(outs) > 0 {
		return " returns (" + p.all(outs, ", ") + ")"
	}
	return ""
}

// bodyOf returns the lines of the body of a function or a method, if it has one.
func (p *printer) bodyOf(n item) []string {
	if len(n.Kids) == 0 {
		return nil
	}
	last := n.Kids[len(n.Kids)-1]
	switch classOf(p.tree[last].Op) {
	case Expression:
		return enclosed("", []string{p.text(last)})
	case Statement:
		return p.lines(last)
	}
	return nil
}

// moduleLine is an MImport or an MExport.
func (p *printer) moduleLine(n item) string {
	switch {
	case n.Op == api.MImport:
		return "import " + n.Text + ";"
	case len(n.Kids) == 0:
		return "export;"
	}
	return "export " + p.list(n) + ";"
}

func (p *printer) refinement(n item) string { return "refines " + n.Text }

func (p *printer) module(n item) []string {
	refined := p.withOp(n, api.MRefines)
	lines := p.below(n.Kids[len(refined):])
	if n.Text == "" {
		return lines
	}
	head := "module " + n.Text + " "
	for _, base := range refined {
		head += p.text(base) + " "
	}
	return enclosed(head, lines)
}

func (p *printer) program(n item) []string { return p.below(n.Kids) }
