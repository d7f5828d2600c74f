package pattern

import (
	"entail/api"
	"entail/num"
	"entail/types"
	"entail/value"
)

// The kinds of heads. A type has the kind of the heads that its values have, as far as patterns can tell.
const (
	noHead = iota
	aConstructor
	aTruth
	aNumber
)

// maxListed is the greatest width of bit vectors all of whose numbers are listed.
const maxListed = 4

// head is the constructor or the literal of a pattern. Numbers of bit vectors have a width.
type head struct {
	kind  int
	name  string
	width string
}

// bits returns the value of a head that is a number of bit vectors.
func (h head) bits() api.Value { return api.Value{Kind: api.VBits, Num: h.name, Text: h.width} }

// label returns the text by which a decision tree tests for a head.
func (h head) label() string {
	if h.width == "" {
		return h.name
	}
	text, _ := value.Text(h.bits())
	return text
}

// constructor is a constructor with the types of its fields. These are base types; a type that has no base is empty.
type constructor struct {
	name   string
	fields []string
}

// meaning is what patterns can tell of the values of a base type.
type meaning struct {
	kind         int
	width        string // of bit vectors
	constructors []constructor
}

// constructor returns the constructor with a name.
func (m meaning) constructor(name string) (constructor, bool) {
	for _, k := range m.constructors {
		if k.name == name {
			return k, true
		}
	}
	return constructor{}, false
}

// heads returns all heads of a type, and whether there are no further ones.
func (m meaning) heads() ([]head, bool) {
	var heads []head
	switch {
	case m.kind == aConstructor:
		for _, k := range m.constructors {
			heads = append(heads, head{kind: aConstructor, name: k.name})
		}
		return heads, true
	case m.kind == aTruth:
		return []head{{kind: aTruth, name: "false"}, {kind: aTruth, name: "true"}}, true
	case m.kind == aNumber && m.width != "":
		width, _ := num.ToInt(m.width)
		if width > maxListed {
			return nil, false
		}
		for i := range 1 << width {
			heads = append(heads, head{aNumber, num.FromInt(i), m.width})
		}
		return heads, true
	}
	return nil, false
}

// catalog keeps what is known of the types of a program, by their strings.
type catalog struct {
	program  api.Tree
	meanings map[string]meaning
}

// catalogFor returns the catalog of a program, and the base of a type.
func catalogFor(p api.Tree, typ string) (catalog, string, api.Errno) {
	if e := types.Check(p, typ, nil); e != api.OK {
		return catalog{}, "", e
	}
	base, e := types.Base(p, typ)
	return catalog{p, map[string]meaning{}}, base, e
}

// meaning returns what patterns can tell of the values of a base type.
func (c catalog) meaning(base string) meaning {
	m, found := c.meanings[base]
	if !found {
		m = c.meaningOf(base)
		c.meanings[base] = m
	}
	return m
}

func (c catalog) meaningOf(base string) meaning {
	t, e := types.Tree(base)
	if e != api.OK {
		return meaning{}
	}
	switch root := t[len(t)-1]; root.Op {
	case api.TBool:
		return meaning{kind: aTruth}
	case api.TInt:
		return meaning{kind: aNumber}
	case api.TBits:
		return meaning{kind: aNumber, width: root.Text}
	case api.TName:
		return c.datatype(base)
	}
	return meaning{}
}

// datatype returns the constructors of a datatype; of several ones with one name it is the first.
func (c catalog) datatype(base string) meaning {
	found, e := types.Constructors(c.program, base)
	if e != api.OK {
		return meaning{}
	}
	m := meaning{kind: aConstructor}
	for _, k := range found {
		if _, again := m.constructor(k.Name); again {
			continue
		}
		made := constructor{name: k.Name}
		for _, f := range k.Fields {
			field, _ := types.Base(c.program, f.Sort)
			made.fields = append(made.fields, field)
		}
		m.constructors = append(m.constructors, made)
	}
	return m
}
