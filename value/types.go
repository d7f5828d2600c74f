package value

import (
	"slices"

	"entail/api"
	"entail/lex"
	"entail/types"
)

// The kinds of types that are not built in.
const (
	aDatatype = iota + api.Ops
	anObject  // of a class, or an array
	aVariable
	noValues
)

// meaning is what the values of a type are: the Op of a built-in type with its base arguments, a datatype with its
// constructors, or one of the other kinds.
type meaning struct {
	op           int
	base         string
	width        string
	args         []string
	constructors []api.Cons
}

// question is whether a value with a text has a type.
type question struct {
	text, typ string
}

// catalog keeps what is known of the types of a program.
type catalog struct {
	program  api.Tree
	meanings map[string]meaning
	answers  map[question]bool
}

func newCatalog(p api.Tree) catalog {
	return catalog{p, map[string]meaning{}, map[question]bool{}}
}

// variables returns the type variables of a type: the names without arguments that the program does not declare.
func variables(p api.Tree, typ string) []string {
	var names []string
	t, _ := types.Tree(typ)
	for _, n := range t {
		if n.Op != api.TName || len(n.Kids) > 0 || !lex.IsName(n.Text) || slices.Contains(names, n.Text) {
			continue
		}
		if _, e := types.Decl(p, n.Text); e == api.ErrUnknown {
			names = append(names, n.Text)
		}
	}
	return names
}

// baseOf returns the base of a type.
func baseOf(p api.Tree, typ string) (string, api.Errno) {
	if e := types.Check(p, typ, variables(p, typ)); e != api.OK {
		return "", e
	}
	return types.Base(p, typ)
}

// meaning returns what the values of a type are. A type without a base has none.
func (c catalog) meaning(typ string) meaning {
	if m, found := c.meanings[typ]; found {
		return m
	}
	m := meaning{op: noValues}
	if base, e := types.Base(c.program, typ); e == api.OK {
		m = c.meaningOf(base)
	}
	c.meanings[typ] = m
	return m
}

// meaningOf returns what the values of a base type are.
func (c catalog) meaningOf(base string) meaning {
	t, _ := types.Tree(base)
	root := t[len(t)-1]
	m := meaning{op: root.Op, base: base, width: root.Text}
	head, args, _ := types.Parts(base)
	m.args = args
	switch root.Op {
	case api.TArray:
		m.op = anObject
	case api.TName:
		m.op = c.kindOf(head, len(args))
	}
	if m.op == aDatatype {
		m.constructors, _ = types.Constructors(c.program, base)
	}
	return m
}

// kindOf returns the kind of a type with a name.
func (c catalog) kindOf(head string, arguments int) int {
	node, e := types.Decl(c.program, head)
	if e != api.OK {
		if arguments == 0 && lex.IsName(head) {
			return aVariable
		}
		return noValues
	}
	switch c.program[node].Op {
	case api.DDatatype:
		return aDatatype
	case api.DClass:
		return anObject
	}
	return noValues
}

// has reports whether a value has a type.
func (c catalog) has(v api.Value, typ string) bool {
	m := c.meaning(typ)
	switch m.op {
	case aVariable:
		return true
	case anObject:
		return v.Kind == api.VRef
	case aDatatype:
		return v.Kind == api.VCons && c.isConstructed(v, m)
	}
	kinds := map[int]int{api.TBool: api.VBool, api.TInt: api.VInt, api.TReal: api.VReal, api.TBits: api.VBits,
		api.TSeq: api.VSeq, api.TSet: api.VSet, api.TMulti: api.VMulti, api.TMap: api.VMap}
	kind, found := kinds[m.op]
	if !found || sortOf(v) != (sort{kind, m.width}) {
		return false
	}
	for i, item := range v.Items {
		if !c.has(item, m.args[i%stepOf(kind)]) {
			return false
		}
	}
	return true
}

// isConstructed reports whether a value is made by one of the constructors of a datatype. Answers are kept, because
// two constructors with one name would be tried again and again.
func (c catalog) isConstructed(v api.Value, m meaning) bool {
	asked := question{textOf(v), m.base}
	if answer, found := c.answers[asked]; found {
		return answer
	}
	answer := slices.ContainsFunc(m.constructors, func(k api.Cons) bool { return c.isMade(v, k) })
	c.answers[asked] = answer
	return answer
}

// isMade reports whether a value is made by a constructor.
func (c catalog) isMade(v api.Value, k api.Cons) bool {
	if k.Name != v.Text || len(k.Fields) != len(v.Items) {
		return false
	}
	for i, item := range v.Items {
		if !c.has(item, k.Fields[i].Sort) {
			return false
		}
	}
	return true
}
