package types

import (
	"entail/api"
	"entail/list"
)

// baser finds bases. A subset type is pending while its own base is looked for, and settled behind that.
type baser struct {
	program
	pending, settled map[string]bool
	bases            map[string]shape
}

func newBaser(p program) baser {
	return baser{p, map[string]bool{}, map[string]bool{}, map[string]shape{}}
}

// subset returns the type that the values of a subset type are taken from.
func (p program) subset(s shape) (shape, bool) {
	d, _ := p.find(s.head)
	if d.Op != api.DSubset {
		return shape{}, false
	}
	return p.typeOf(p.at(d.Kids[0])), true
}

// checkCycles returns ErrCycle if a subset type is reached again within its own base.
func (b baser) checkCycles(s shape) api.Errno {
	from, found := b.subset(s)
	if !found {
		return list.FirstError(list.Transform(s.args, b.checkCycles)...)
	}
	switch {
	case b.pending[s.head]:
		return api.ErrCycle
	case b.settled[s.head]:
		return api.OK
	}
	b.pending[s.head] = true
	e := b.checkCycles(from)
	b.pending[s.head], b.settled[s.head] = false, true
	return e
}

// replaced returns the base of a type without cycles. A base that is too long is so within another one, too, so that
// none of them is made.
func (b baser) replaced(s shape) (shape, api.Errno) {
	if from, found := b.subset(s); found {
		if base, known := b.bases[s.head]; known {
			return base, api.OK
		}
		base, e := b.replaced(from)
		b.bases[s.head] = base
		return base, e
	}
	out := shape{head: s.head}
	for _, arg := range s.args {
		base, e := b.replaced(arg)
		if e != api.OK {
			return shape{}, e
		}
		out.args = append(out.args, base)
	}
	return out, out.fits()
}

// base returns the base of a type.
func (p program) base(s shape) (shape, api.Errno) {
	b := newBaser(p)
	if e := b.checkCycles(s); e != api.OK {
		return shape{}, e
	}
	return b.replaced(s)
}
