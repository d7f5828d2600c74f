package module

import "entail/api"

// own returns the entry of a declaration in its own module.
func (m *unit) own(d declaration) Entry {
	return Entry{d.Text, qualified(m.Text, d.Text), d.Op, true}
}

// abroad returns the entry of a declaration in the modules that import its own one.
func (m *unit) abroad(d declaration) Entry {
	full := qualified(m.Text, d.Text)
	return Entry{full, full, d.Op, d.Revealed}
}

// imported returns the module with a name, if another one imports it.
func (p *program) imported(by *unit, name string) (*unit, bool) {
	for _, kid := range by.imports {
		if p.tree[kid].Text == name {
			return p.find(name)
		}
	}
	return nil, false
}

// resolve returns the declaration that a name denotes in a module.
func (p *program) resolve(m *unit, name string) (Entry, api.Errno) {
	of, rest := cut(name)
	from, entry := m, m.own
	if rest != name && of != m.Text {
		found := false
		if from, found = p.imported(m, of); !found {
			return Entry{}, api.ErrUnknown
		}
		entry = from.abroad
	}
	out := from.entry(rest, entry)
	switch {
	case out == (Entry{}):
		return Entry{}, api.ErrUnknown
	case from != m && !from.declarations[from.named[rest]].exported:
		return Entry{}, api.ErrExport
	}
	out.Name = name
	return out, api.OK
}

// entry returns the entry of the declaration with a name, or nothing.
func (m *unit) entry(name string, of func(declaration) Entry) Entry {
	k, found := m.named[name]
	if !found {
		return Entry{}
	}
	return of(m.declarations[k])
}
