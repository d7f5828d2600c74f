package infer

import (
	"iter"
	"slices"
	"strings"

	"entail/api"
	"entail/list"
	"entail/types"
)

// Kinds of declared types, as heads have them.
const (
	aDatatype = "a datatype"
	aClass    = "a class"
)

// declaration is a declaration of a flat program with the index of its node.
type declaration struct {
	api.Node
	index int
}

// callable is what takes arguments, with the types as they are declared: a function, a method, a constructor or a class.
// The results of a constructor and a class are their types.
type callable struct {
	parameters []string
	takes      []*shape
	results    []*shape
}

// asked is a question for the error of a declared type.
type asked struct {
	text, parameters string
}

// catalog is what is declared in a flat program.
type catalog struct {
	program   api.Tree
	skeleton  api.Tree // the types that are declared
	named     map[string]declaration
	owners    map[int]declaration // the datatypes of constructors
	bases     map[string]*shape   // of subset types; nil is a cycle
	callables map[int]callable
	answers   map[asked]api.Errno
}

// catalogOf returns the catalog of a flat program in which names are clear.
func catalogOf(p api.Tree) (*catalog, api.Errno) {
	// No declaration has an empty name: the error is ErrUnknown just if the program is flat.
	if _, e := types.Decl(p, ""); e != api.ErrUnknown {
		return nil, e
	}
	c := &catalog{program: p, named: map[string]declaration{}, owners: map[int]declaration{}, bases: map[string]*shape{},
		callables: map[int]callable{}, answers: map[asked]api.Errno{}}
	for d := range c.declarations() {
		if _, twice := c.named[d.Text]; twice {
			return nil, api.ErrTwice
		}
		c.named[d.Text] = d
	}
	if !c.isClear() {
		return nil, api.ErrTwice
	}
	c.skeleton = c.typesAlone()
	return c, api.OK
}

func (c *catalog) at(node int) declaration { return declaration{c.program[node], node} }

// roots returns the declarations without the constructors.
func (c *catalog) roots() []declaration {
	module := c.program[len(c.program)-2]
	return list.Transform(module.Kids, c.at)
}

// declarations visits the declarations and constructors.
func (c *catalog) declarations() iter.Seq[declaration] {
	return func(yield func(declaration) bool) {
		for _, root := range c.roots() {
			for _, made := range c.kids(root, api.DCons) {
				c.owners[made.index] = root
				if !yield(made) {
					return
				}
			}
			if !yield(root) {
				return
			}
		}
	}
}

// kids returns the children of a declaration that have one of some Ops.
func (c *catalog) kids(of declaration, ops ...int) []declaration {
	var found []declaration
	for _, kid := range of.Kids {
		if slices.Contains(ops, c.program[kid].Op) {
			found = append(found, c.at(kid))
		}
	}
	return found
}

func nameOf(d declaration) string { return d.Text }

// typeOf returns the declared type of a parameter, a field and so on.
func (c *catalog) typeOf(d declaration) *shape { return shapeAt(c.program, d.Kids[0]) }

// isClear reports whether names do not stand in the way of each other (those of declarations were looked at before).
func (c *catalog) isClear() bool {
	for i := range len(c.program) {
		n := c.at(i)
		d, found := c.named[n.Text]
		clear := true
		switch n.Op {
		case api.DTypeParam:
			clear = !found
		case api.DParam, api.DGhostParam, api.DOut, api.SVar, api.SGhostVar, api.QVar, api.PVar, api.ELet:
			clear = !found || d.Op != api.DFunction && d.Op != api.DConst
		case api.DClass, api.DCons:
			clear = c.areFieldsClear(n)
		case api.DDatatype:
			clear = c.areDestructorsClear(n)
		}
		if !clear {
			return false
		}
	}
	return true
}

// areFieldsClear reports whether all fields of a class or a constructor have different names.
func (c *catalog) areFieldsClear(d declaration) bool {
	names := list.Transform(c.kids(d, api.DField, api.DGhostField), nameOf)
	slices.Sort(names)
	return len(slices.Compact(slices.Clone(names))) == len(names)
}

// areDestructorsClear reports whether fields of constructors with one name have one type.
func (c *catalog) areDestructorsClear(d declaration) bool {
	found := map[string]string{}
	for _, made := range c.kids(d, api.DCons) {
		for _, field := range c.kids(made, api.DField) {
			text := c.typeOf(field).String()
			if before, twice := found[field.Text]; twice && before != text {
				return false
			}
			found[field.Text] = text
		}
	}
	return true
}

// typesAlone returns the program without all that types do not depend on: the declared types are looked up in it again
// and again.
func (c *catalog) typesAlone() api.Tree {
	var out api.Tree
	module := api.Node{Op: api.MModule}
	for _, root := range c.roots() {
		switch root.Op {
		case api.DDatatype, api.DClass:
			out = appendSubtree(out, c.program, root.index)
		case api.DSubset:
			out = appendSubtree(out, c.program, root.Kids[0])
			parameter := len(out) - 1
			truth := api.Node{Op: api.EBool, Text: "true"}
			out = append(out, truth, truth, api.Node{Op: api.DSubset, Text: root.Text, Kids: []int{parameter, parameter + 1, parameter + 2}})
		default:
			continue
		}
		module.Kids = append(module.Kids, len(out)-1)
	}
	out = append(out, module)
	return append(out, api.Node{Op: api.MProgram, Kids: []int{len(out) - 1}})
}

// first returns the first node of a subtree.
func first(t api.Tree, node int) int {
	for len(t[node].Kids) > 0 {
		node = t[node].Kids[0]
	}
	return node
}

// appendSubtree appends a copy of a subtree.
func appendSubtree(out, t api.Tree, root int) api.Tree {
	from := first(t, root)
	offset := len(out) - from
	for _, n := range t[from : root+1] {
		n.Kids = list.Transform(n.Kids, func(kid int) int { return kid + offset })
		out = append(out, n)
	}
	return out
}

// errorOf returns the error of types.Check for a declared type, then that of types.Base.
func (c *catalog) errorOf(text string, parameters []string) api.Errno {
	question := asked{text, strings.Join(parameters, ",")}
	if answer, found := c.answers[question]; found {
		return answer
	}
	e := types.Check(c.skeleton, text, parameters)
	if e == api.OK {
		_, e = types.Base(c.skeleton, text)
	}
	c.answers[question] = e
	return e
}

// kindOf returns the kind of a head: its word, or what is declared with it.
func (c *catalog) kindOf(head string) string {
	if strings.HasPrefix(head, bitsWord) {
		return bitsWord
	}
	switch c.named[head].Op {
	case api.DDatatype:
		return aDatatype
	case api.DClass:
		return aClass
	}
	return head
}

// subset returns the declaration of a subset type.
func (c *catalog) subset(s *shape) (declaration, bool) {
	d := c.named[s.head]
	return d, d.Op == api.DSubset
}

// hasSubset reports whether there is a subset type in a declared type, so that it differs from its base.
func (c *catalog) hasSubset(s *shape) bool {
	_, found := c.subset(s)
	return found || slices.ContainsFunc(s.args, c.hasSubset)
}

// base returns the base of a declared type with values for its type parameters, or nil if there is none. It may be too
// long; what is in it more than once is shared.
func (c *catalog) base(s *shape, values map[string]*shape) *shape {
	if d, found := c.subset(s); found {
		return c.baseOf(d)
	}
	if value, found := values[s.head]; found && len(s.args) == 0 {
		return value
	}
	out := made(s.head)
	for _, arg := range s.args {
		base := c.base(arg, values)
		if base == nil {
			return nil
		}
		out.args = append(out.args, base)
	}
	return out
}

// baseOf returns the base of a subset type.
func (c *catalog) baseOf(d declaration) *shape {
	if base, found := c.bases[d.Text]; found {
		return base
	}
	c.bases[d.Text] = nil // while it is looked for
	base := c.base(c.typeOf(c.at(d.Kids[0])), nil)
	c.bases[d.Text] = base
	return base
}

// callableOf returns what a declaration takes and returns.
func (c *catalog) callableOf(d declaration) callable {
	if found, known := c.callables[d.index]; known {
		return found
	}
	generic := d
	if d.Op == api.DCons {
		generic = c.owners[d.index]
	}
	k := callable{
		parameters: list.Transform(c.kids(generic, api.DTypeParam), nameOf),
		takes:      list.Transform(c.kids(d, api.DParam, api.DGhostParam, api.DField, api.DGhostField), c.typeOf),
		results:    list.Transform(c.kids(d, api.DOut, api.DResult), c.typeOf),
	}
	if d.Op == api.DCons || d.Op == api.DClass {
		k.results = []*shape{made(generic.Text, list.Transform(k.parameters, func(name string) *shape { return made(name) })...)}
	}
	c.callables[d.index] = k
	return k
}
