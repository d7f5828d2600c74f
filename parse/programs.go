package parse

import "entail/api"

func (p *parser) program() *node {
	if !p.is("module") {
		return made(api.MProgram, "", 0, made(api.MModule, "", 0, p.contents("")...))
	}
	var modules []*node
	for range p.ahead() {
		modules = append(modules, p.module())
	}
	return made(api.MProgram, "", 0, modules...)
}

func (p *parser) module() *node {
	at := p.next().At
	p.expect("module")
	name := p.name(isUpper)
	var kids []*node
	if refines := p.next(); p.take("refines") {
		kids = append(kids, made(api.MRefines, p.name(isUpper).Text, refines.At))
	}
	p.expect("{")
	kids = append(kids, p.contents("}")...)
	p.expect("}")
	return made(api.MModule, name.Text, at, kids...)
}

// contents reads the parts of a module, up to a closing sign or the end of the text.
func (p *parser) contents(closing string) []*node {
	var kids []*node
	for p.is("import") {
		kids = append(kids, p.importLine())
	}
	if p.is("export") {
		kids = append(kids, p.exportLine())
	}
	for t := range p.ahead() {
		if t.Text == closing {
			break
		}
		kids = append(kids, p.declaration())
	}
	return kids
}

func (p *parser) importLine() *node {
	at := p.advance().At
	name := p.name(isUpper)
	p.expect(";")
	return made(api.MImport, name.Text, at)
}

func (p *parser) exportLine() *node {
	at := p.advance().At
	var names []*node
	if !p.is(";") {
		names = separated(&p.stream, p.exported)
	}
	p.expect(";")
	return made(api.MExport, "", at, names...)
}

// exported reads a name, with a plus sign if it is revealed.
func (p *parser) exported() *node {
	at := p.next().At
	plus := ""
	if p.take("+") {
		plus = "+"
	}
	return made(api.MName, plus+p.name(isLocal).Text, at)
}
