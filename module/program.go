package module

import (
	"iter"
	"slices"
	"strings"

	"entail/api"
	"entail/tree"
)

// declaration is a declaration of a module with its node.
type declaration struct {
	api.Node
	index    int
	datatype string // of a constructor
	Export
	exported bool
}

func (d declaration) export() Export { return d.Export }

// unit is a module with its declarations, and with the nodes of what it needs and of what it exports.
type unit struct {
	api.Node
	index        int
	refined      []int // one MRefines or none
	imports      []int
	names        []int // of the MExport
	open         bool  // there is no MExport
	declarations []declaration
	named        map[string]int
}

// program is the modules of a program in the order of the text, and their numbers in the order in which each one comes
// behind those that it needs.
type program struct {
	tree    api.Tree
	modules []unit
	named   map[string]int
	order   []int
}

func isDeclaration(op int) bool {
	class, _ := tree.Class(op)
	return class == tree.Declaration
}

// is returns a function that reports whether an Op is a certain one.
func is(wanted int) func(op int) bool { return func(op int) bool { return op == wanted } }

// kidsOf returns the children of a node that have Ops of some kind.
func kidsOf(t api.Tree, node int, wanted func(op int) bool) []int {
	return slices.DeleteFunc(slices.Clone(t[node].Kids), func(kid int) bool { return !wanted(t[kid].Op) })
}

// unitOf returns the module at a node.
func unitOf(t api.Tree, node int) unit {
	m := unit{Node: t[node], index: node, refined: kidsOf(t, node, is(api.MRefines)), imports: kidsOf(t, node, is(api.MImport)), open: true, named: map[string]int{}}
	for _, export := range kidsOf(t, node, is(api.MExport)) {
		m.open, m.names = false, t[export].Kids
	}
	for _, kid := range kidsOf(t, node, isDeclaration) {
		m.declarations = append(m.declarations, declaration{Node: t[kid], index: kid, Export: Export{Name: t[kid].Text}})
		for _, made := range kidsOf(t, kid, is(api.DCons)) {
			m.declarations = append(m.declarations, declaration{Node: t[made], index: made, datatype: t[kid].Text, Export: Export{Name: t[made].Text}})
		}
	}
	return m
}

// needs visits the nodes of the names of the modules that a module needs.
func (m *unit) needs() iter.Seq[int] {
	return func(yield func(int) bool) {
		for _, list := range [...][]int{m.refined, m.imports} {
			for _, node := range list {
				if !yield(node) {
					return
				}
			}
		}
	}
}

// programOf checks that a tree is a program, and returns it, or the node of the first error.
func programOf(t api.Tree) (*program, int, api.Errno) {
	if at, e := tree.Check(t); e != api.OK {
		return nil, at, e
	}
	root := t[len(t)-1]
	if root.Op != api.MProgram {
		return nil, len(t) - 1, api.ErrKind
	}
	p := &program{tree: t, named: map[string]int{}}
	for i, kid := range root.Kids {
		p.modules = append(p.modules, unitOf(t, kid))
		if _, found := p.named[t[kid].Text]; !found {
			p.named[t[kid].Text] = i
		}
	}
	for _, check := range []func() (int, api.Errno){p.checkModules, p.arrange, p.checkDeclarations} {
		if at, e := check(); e != api.OK {
			return nil, at, e
		}
	}
	return p, 0, api.OK
}

// find returns the module with a name.
func (p *program) find(name string) (*unit, bool) {
	i, found := p.named[name]
	if !found {
		return nil, false
	}
	return &p.modules[i], true
}

// checkModules returns the node of the first module, or of the first name of a module, with an error.
func (p *program) checkModules() (int, api.Errno) {
	for i := range p.modules {
		m := &p.modules[i]
		if p.named[m.Text] != i {
			return m.index, api.ErrTwice
		}
		before := map[string]bool{}
		for node := range m.needs() {
			name := p.tree[node].Text
			if e := p.checkNeed(m, name, before[name]); e != api.OK {
				return node, e
			}
			before[name] = true
		}
	}
	return 0, api.OK
}

// checkNeed returns the error of the name of a module that a module needs.
func (p *program) checkNeed(m *unit, name string, twice bool) api.Errno {
	_, found := p.find(name)
	switch {
	case !found:
		return api.ErrUnknown
	case name == m.Text:
		return api.ErrCycle
	case twice:
		return api.ErrTwice
	}
	return api.OK
}

// arrange brings the modules into their order, or returns the first one that cannot be taken.
func (p *program) arrange() (int, api.Errno) {
	taken := make([]bool, len(p.modules))
	for range len(p.modules) {
		next := p.next(taken)
		if next < 0 {
			return p.modules[slices.Index(taken, false)].index, api.ErrCycle
		}
		taken[next] = true
		p.order = append(p.order, next)
	}
	return 0, api.OK
}

// next returns the first module that has not been taken, and that needs only modules that have been, or -1.
func (p *program) next(taken []bool) int {
search:
	for i := range p.modules {
		if taken[i] {
			continue
		}
		for node := range p.modules[i].needs() {
			if !taken[p.named[p.tree[node].Text]] {
				continue search
			}
		}
		return i
	}
	return -1
}

// checkDeclarations returns the node of the first declaration or exported name with an error.
func (p *program) checkDeclarations() (int, api.Errno) {
	for i := range p.modules {
		m := &p.modules[i]
		for k, d := range m.declarations {
			if _, twice := m.named[d.Text]; twice {
				return d.index, api.ErrTwice
			}
			m.named[d.Text] = k
		}
		for _, node := range m.names {
			if e := m.exportName(p.tree[node].Text); e != api.OK {
				return node, e
			}
		}
		m.exportRest()
	}
	return 0, api.OK
}

// exportName takes down that a declaration is exported, or returns the error of its name in the list of exports.
func (m *unit) exportName(text string) api.Errno {
	name, revealed := strings.CutPrefix(text, "+")
	k, found := m.named[name]
	if !found {
		return api.ErrUnknown
	}
	d := &m.declarations[k]
	switch {
	case d.Op == api.DCons:
		return api.ErrKind
	case d.exported:
		return api.ErrTwice
	}
	d.exported, d.Revealed = true, revealed
	return api.OK
}

// exportRest takes down which declarations are exported without being named.
func (m *unit) exportRest() {
	for k := range m.declarations {
		d := &m.declarations[k]
		if m.open || d.Op == api.DCons && m.declarations[m.named[d.datatype]].Revealed {
			d.exported, d.Revealed = true, true
		}
	}
}

// exports visits the declarations that a module exports.
func (m *unit) exports() iter.Seq[declaration] {
	return func(yield func(declaration) bool) {
		for _, d := range m.declarations {
			if d.exported && !yield(d) {
				return
			}
		}
	}
}

// closure returns the names of a module and of all that it needs.
func (p *program) closure(m *unit) map[string]bool {
	needed := map[string]bool{m.Text: true}
	// Each module comes before those that need it, so that one pass from the end finds all.
	for i := range p.order {
		u := &p.modules[p.order[len(p.order)-1-i]]
		if !needed[u.Text] {
			continue
		}
		for node := range u.needs() {
			needed[p.tree[node].Text] = true
		}
	}
	return needed
}

// clients returns the names of a module and of all that need it.
func (p *program) clients(m *unit) map[string]bool {
	found := map[string]bool{m.Text: true}
	for _, i := range p.order {
		u := &p.modules[i]
		for node := range u.needs() {
			if found[p.tree[node].Text] {
				found[u.Text] = true
			}
		}
	}
	return found
}
