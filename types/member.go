package types

import (
	"entail/api"
	"entail/list"
)

// member is a field with its type.
type member struct {
	name  string
	typ   shape
	ghost bool
}

// constructor is a constructor of an instance of a datatype.
type constructor struct {
	name   string
	fields []member
}

// members returns the fields of a constructor or of a class.
func (p program) members(d declaration) []member {
	return list.Transform(p.kids(d, api.DField, api.DGhostField), func(f declaration) member {
		return member{f.Text, p.typeOf(f), f.Op == api.DGhostField}
	})
}

// declared returns the declaration of the head of a type, which has to be of one kind.
func (p program) declared(s shape, op int) (declaration, api.Errno) {
	d, found := p.typeNamed(s.head)
	switch {
	case !found:
		return declaration{}, api.ErrUnknown
	case d.Op != op:
		return declaration{}, api.ErrKind
	}
	return d, api.OK
}

// constructors returns the constructors of an instance of a datatype.
func (p program) constructors(s shape) ([]constructor, api.Errno) {
	d, e := p.declared(s, api.DDatatype)
	if e != api.OK {
		return nil, e
	}
	names := p.parameters(d)
	if len(names) != len(s.args) {
		return nil, api.ErrArgs
	}
	values := map[string]shape{}
	for i, name := range names {
		if _, found := values[name]; !found {
			values[name] = s.args[i]
		}
	}
	var out []constructor
	for _, c := range p.kids(d, api.DCons) {
		fields := p.members(c)
		for i, f := range fields {
			fields[i].typ = f.typ.put(values)
			if e := fields[i].typ.fits(); e != api.OK {
				return nil, e
			}
		}
		out = append(out, constructor{c.Text, fields})
	}
	return out, api.OK
}

// fields returns the fields of a class, or the destructors of a datatype.
func (p program) fields(s shape) ([]member, api.Errno) {
	switch d, _ := p.find(s.head); d.Op {
	case api.DClass:
		return p.members(d), api.OK
	case api.DDatatype:
		var out []member
		constructors, e := p.constructors(s)
		for _, c := range constructors {
			out = append(out, c.fields...)
		}
		return out, e
	}
	return nil, api.ErrKind
}
