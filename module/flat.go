package module

import (
	"iter"
	"slices"

	"entail/api"
	"entail/list"
	"entail/scope"
)

// The sorts of names.
const (
	aType = iota
	aConstant
	aFunction
	aConstructor
	aMethod
)

// kinds are the Ops of the declarations that names of one sort denote.
type kinds [3]int

// kindsOf returns the Ops of the declarations that a sort of names denotes.
func kindsOf(sort int) kinds {
	return [...]kinds{
		aType:        {api.DDatatype, api.DSubset, api.DClass},
		aConstant:    {api.DConst},
		aFunction:    {api.DFunction},
		aConstructor: {api.DCons},
		aMethod:      {api.DMethod},
	}[sort]
}

// familyOf returns the Ops of the declarations that are denoted by the same sort of names as one with this Op.
func familyOf(op int) kinds {
	if types := kindsOf(aType); slices.Contains(types[:], op) {
		return types
	}
	return kinds{op}
}

// home is where a node stands: its module, and the type parameters of its declaration.
type home struct {
	module     *unit
	parameters map[string]bool
}

// place is a node with its number, its home, and what declares the variables that are bound there.
type place struct {
	api.Node
	home
	index  int
	around []int
}

// rule says that the Text of a node is a name of a sort, unless it stays.
type rule struct {
	op    int
	sort  int
	stays func(f *flattener, at place) bool
}

// never is the rule for names that are always global.
func never(*flattener, place) bool { return false }

func rules() []rule {
	return []rule{
		{api.TName, aType, (*flattener).isParameter}, {api.EVar, aConstant, (*flattener).isVariable},
		{api.ECall, aFunction, never}, {api.ECons, aConstructor, never}, {api.EIs, aConstructor, never},
		{api.PCons, aConstructor, never}, {api.SCall, aMethod, never}, {api.SReveal, aFunction, never},
	}
}

// flattener makes a flat program.
type flattener struct {
	*program
	rules map[int]rule
	homes []home
	texts []string
	twice []bool // the nodes that declare what is declared beside them before
}

func newFlattener(p *program) *flattener {
	size := len(p.tree)
	f := &flattener{p, map[int]rule{}, make([]home, size), list.Transform(p.tree, func(n api.Node) string { return n.Text }), make([]bool, size)}
	for _, r := range rules() {
		f.rules[r.op] = r
	}
	for i := range p.modules {
		f.settle(&p.modules[i])
	}
	return f
}

// isParameter reports whether a type is a type parameter that is in scope.
func (f *flattener) isParameter(at place) bool { return at.parameters[at.Text] }

// isVariable reports whether a variable is local.
func (f *flattener) isVariable(at place) bool { return scope.Owner(f.tree, at.around, at.Text) >= 0 }

// isLocal reports whether a node declares a local variable.
func isLocal(op int) bool {
	switch op {
	case api.DParam, api.DGhostParam, api.DOut, api.SVar, api.SGhostVar, api.ELet, api.QVar, api.PVar:
		return true
	}
	return false
}

// markTwice marks those of some nodes that have the name of one before.
func (f *flattener) markTwice(nodes []int) {
	before := map[string]bool{}
	for _, node := range nodes {
		f.twice[node] = before[f.tree[node].Text]
		before[f.tree[node].Text] = true
	}
}

// settle takes down the homes of the nodes in the declarations of a module, and which names are declared twice there.
func (f *flattener) settle(m *unit) {
	for _, d := range kidsOf(f.tree, m.index, isDeclaration) {
		parameters := kidsOf(f.tree, d, is(api.DTypeParam))
		at := home{m, map[string]bool{}}
		for _, kid := range parameters {
			at.parameters[f.tree[kid].Text] = true
		}
		f.markTwice(parameters)
		first := f.first(d)
		for i := range d + 1 - first {
			f.homes[first+i] = at
			f.markTwice(scope.Declared(f.tree, first+i))
		}
	}
}

// places visits the nodes of the declarations by their indices.
func (f *flattener) places() iter.Seq[place] {
	return func(yield func(place) bool) {
		for node, around := range scope.Visit(f.tree) {
			if at := f.homes[node]; at.module != nil && !yield(place{f.tree[node], at, node, around}) {
				return
			}
		}
	}
}

// rename finds the new Texts of all nodes, or the first node with an error.
func (f *flattener) rename() (int, api.Errno) {
	for at := range f.places() {
		if e := f.renameAt(at); e != api.OK {
			return at.index, e
		}
	}
	for _, m := range f.modules {
		for _, d := range m.declarations {
			f.texts[d.index] = qualified(m.Text, d.Text)
		}
	}
	return 0, api.OK
}

// renameAt finds the new Text of a node.
func (f *flattener) renameAt(at place) api.Errno {
	if f.twice[at.index] || isLocal(at.Op) && f.isVariable(at) {
		return api.ErrTwice
	}
	r, found := f.rules[at.Op]
	if !found || r.stays(f, at) {
		return api.OK
	}
	entry, e := f.resolve(at.module, at.Text)
	f.texts[at.index] = entry.Full
	return list.FirstError(e, r.checkKind(entry))
}

// checkKind returns ErrKind for a declaration that names of this sort do not denote.
func (r rule) checkKind(entry Entry) api.Errno {
	if familyOf(entry.Op) != kindsOf(r.sort) {
		return api.ErrKind
	}
	return api.OK
}

// joined returns the flat program.
func (f *flattener) joined() api.Tree {
	var out api.Tree
	module := api.Node{Op: api.MModule}
	for _, i := range f.order {
		m := f.modules[i]
		for _, d := range m.declarations {
			if d.Op != api.DCons {
				out = f.appendDeclaration(out, d)
				module.Kids = append(module.Kids, len(out)-1)
			}
		}
	}
	out = append(out, module)
	return append(out, api.Node{Op: api.MProgram, Kids: []int{len(out) - 1}})
}

// appendDeclaration appends the nodes of a declaration with their new Texts.
func (f *flattener) appendDeclaration(out api.Tree, d declaration) api.Tree {
	if d.Op != api.DFunction || !d.exported || d.Revealed {
		return f.appendNodes(out, f.first(d.index), d.index+1)
	}
	marks := len(kidsOf(f.tree, d.index, is(api.DMark)))
	first := f.first(d.index)
	out = f.appendNodes(out, first, first+marks)
	mark := len(out)
	out = append(out, api.Node{Op: api.DMark, Text: "hidden", At: d.At})
	out = f.appendNodes(out, first+marks, d.index+1)
	root := &out[len(out)-1]
	// The marks before the new one are one node back more than the other children, which the offset is right for.
	for k := range marks {
		root.Kids[k]--
	}
	root.Kids = slices.Insert(root.Kids, marks, mark)
	return out
}

// appendNodes appends nodes with their new Texts; their children move as they do.
func (f *flattener) appendNodes(out api.Tree, first, end int) api.Tree {
	offset := len(out) - first
	for node := first; node < end; node++ {
		n := f.tree[node]
		n.Text = f.texts[node]
		n.Kids = list.Transform(n.Kids, func(kid int) int { return kid + offset })
		out = append(out, n)
	}
	return out
}

// first returns the first node of a subtree.
func (p *program) first(node int) int {
	for len(p.tree[node].Kids) > 0 {
		node = p.tree[node].Kids[0]
	}
	return node
}

// part returns the program with some of its modules.
func (p *program) part(wanted map[string]bool) api.Tree {
	var out api.Tree
	root := p.tree[len(p.tree)-1]
	root.Kids = nil
	for _, m := range p.modules {
		if !wanted[m.Text] {
			continue
		}
		first := p.first(m.index)
		offset := len(out) - first
		for _, n := range p.tree[first : m.index+1] {
			n.Kids = list.Transform(n.Kids, func(kid int) int { return kid + offset })
			out = append(out, n)
		}
		root.Kids = append(root.Kids, len(out)-1)
	}
	return append(out, root)
}
