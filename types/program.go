package types

import (
	"iter"
	"slices"

	"entail/api"
	"entail/list"
	"entail/tree"
)

// declaration is a declaration of a flat program with the index of its node.
type declaration struct {
	api.Node
	index int
}

// program is a flat program with the first declaration of each name.
type program struct {
	tree  api.Tree
	named map[string]declaration
}

// programOf checks that a tree is a flat program.
func programOf(p api.Tree) (program, api.Errno) {
	if _, e := tree.Check(p); e != api.OK {
		return program{}, e
	}
	if !isFlat(p) {
		return program{}, api.ErrKind
	}
	out := program{p, map[string]declaration{}}
	for d := range out.declarations() {
		if _, found := out.find(d.Text); !found {
			out.named[d.Text] = d
		}
	}
	return out, api.OK
}

// isFlat reports whether a syntax tree is a flat program.
func isFlat(t api.Tree) bool {
	root := t[len(t)-1]
	if root.Op != api.MProgram || len(root.Kids) != 1 {
		return false
	}
	module := t[root.Kids[0]]
	for _, kid := range module.Kids {
		switch t[kid].Op {
		case api.MRefines, api.MImport, api.MExport:
			return false
		}
	}
	return module.Text == ""
}

// declarations visits the declarations by their nodes: constructors come before their datatype.
func (p program) declarations() iter.Seq[declaration] {
	return func(yield func(declaration) bool) {
		module := p.tree[len(p.tree)-2]
		for _, kid := range module.Kids {
			for _, d := range append(p.kids(p.at(kid), api.DCons), p.at(kid)) {
				if !yield(d) {
					return
				}
			}
		}
	}
}

func textOf(d declaration) string { return d.Text }

func (p program) at(node int) declaration { return declaration{p.tree[node], node} }

// kids returns the children that have one of some Ops.
func (p program) kids(of declaration, ops ...int) []declaration {
	var found []declaration
children:
	for _, kid := range of.Kids {
		for _, op := range ops {
			if p.tree[kid].Op == op {
				found = append(found, p.at(kid))
				continue children
			}
		}
	}
	return found
}

// find returns the declaration that has a name.
func (p program) find(name string) (declaration, bool) {
	d, found := p.named[name]
	return d, found
}

// typeNamed returns the declaration of a type.
func (p program) typeNamed(head string) (declaration, bool) {
	d, _ := p.find(head)
	switch d.Op {
	case api.DDatatype, api.DSubset, api.DClass:
		return d, true
	}
	return declaration{}, false
}

// typeOf returns the type of a parameter, a field and so on.
func (p program) typeOf(d declaration) shape { return shapeAt(p.tree, d.Kids[0]) }

// parameters returns the names of the type parameters of a declaration.
func (p program) parameters(d declaration) []string {
	return list.Transform(p.kids(d, api.DTypeParam), textOf)
}

// check returns the first error of a type, from the outside to the inside.
func (p program) check(s shape, vars []string) api.Errno {
	if e := p.checkHead(s, slices.Contains(vars, s.head)); e != api.OK {
		return e
	}
	return list.FirstError(list.Transform(s.args, func(arg shape) api.Errno { return p.check(arg, vars) })...)
}

// checkHead returns the error of the head of a type, which may be in the list of variables.
func (p program) checkHead(s shape, listed bool) api.Errno {
	if _, _, found := builtinOf(s.head); found || listed && len(s.args) == 0 {
		return api.OK
	}
	d, found := p.typeNamed(s.head)
	switch {
	case !found && !listed:
		return api.ErrUnknown
	case !found || len(p.parameters(d)) != len(s.args):
		return api.ErrArgs
	}
	return api.OK
}

// signature returns the signature of a function or a method.
func (p program) signature(d declaration) Callable {
	bound := func(k declaration) api.Bound { return api.Bound{Name: k.Text, Sort: p.typeOf(k).String()} }
	parameters := p.kids(d, api.DParam, api.DGhostParam)
	return Callable{
		Name:    d.Text,
		Method:  d.Op == api.DMethod,
		Marks:   list.Transform(p.kids(d, api.DMark), textOf),
		Vars:    p.parameters(d),
		Params:  list.Transform(parameters, bound),
		Ghosts:  list.Transform(parameters, func(k declaration) bool { return k.Op == api.DGhostParam }),
		Results: list.Transform(p.kids(d, api.DOut, api.DResult), bound),
	}
}
