package pattern

import (
	"slices"

	"entail/api"
	"entail/list"
	"entail/num"
	"entail/value"
)

// maxRows is the greatest number of rows in all questions; each question counts as one row more.
const maxRows = 20000

// row is a list of patterns for a list of types.
type row []*shape

func (r row) rest() row { return r[1:] }

// detail is a head at a place of rows, and the number of its parts.
type detail struct {
	place int
	head  head
	parts int
}

// row returns the row in which the parts of the pattern at the place stand for this pattern, and whether the row has the
// head or none there. A pattern without a head has wildcards as its parts.
func (d detail) row(r row) (row, bool) {
	s := r[d.place]
	switch {
	case !s.hasHead():
		return replaced(r, d.place, slices.Repeat(row{s}, d.parts)), true
	case s.head != d.head:
		return nil, false
	}
	return replaced(r, d.place, s.parts), true
}

// selected returns what becomes of the elements of a list that are taken.
func selected[A, B any](l []A, take func(A) (B, bool)) []B {
	var out []B
	for _, x := range l {
		if y, taken := take(x); taken {
			out = append(out, y)
		}
	}
	return out
}

// replaced returns a copy of a list in which some elements stand for the one at a place.
func replaced[A any](l []A, at int, by []A) []A {
	out := make([]A, 0, len(l)+len(by)-1)
	out = append(out, l[:at]...)
	out = append(out, by...)
	return append(out, l[at+1:]...)
}

// headsOf returns the heads of some patterns in their order, each once.
func headsOf(patterns []*shape) []head {
	var heads []head
	seen := map[head]bool{}
	for _, s := range patterns {
		if s.hasHead() && !seen[s.head] {
			seen[s.head] = true
			heads = append(heads, s.head)
		}
	}
	return heads
}

// firstHeads returns the heads at the first place of some rows.
func firstHeads(rows []row) []head {
	return headsOf(list.Transform(rows, func(r row) *shape { return r[0] }))
}

// search asks questions about rows, and counts them.
type search struct {
	catalog
	spent int
}

// ask counts a question, and reports whether it may be asked.
func (s *search) ask(rows int) bool {
	s.spent += rows + 1
	return !s.isSpent()
}

func (s *search) isSpent() bool { return s.spent > maxRows }

// parts returns the types of the parts of a head.
func (s *search) parts(typ string, h head) []string {
	k, _ := s.meaning(typ).constructor(h.name)
	return k.fields
}

// asked returns the heads of a type that are asked where some rows have heads.
func (s *search) asked(typ string, heads []head) []head {
	m := s.meaning(typ)
	if all, complete := m.heads(); complete {
		return all
	}
	if least, found := leastOther(m, heads); found {
		return append([]head{least}, heads...)
	}
	return heads
}

// leastOther returns the least natural number of a type that is none of some heads.
func leastOther(m meaning, heads []head) (head, bool) {
	for i := range len(heads) + 1 {
		h := head{aNumber, num.FromInt(i), m.width}
		if !slices.Contains(heads, h) {
			return h, m.width == "" || value.Check(h.bits()) == api.OK
		}
	}
	return head{}, false
}

// isUseful reports whether some values match a row and none of a list of rows.
func (s *search) isUseful(rows []row, r row, types []string) bool {
	if !s.ask(len(rows)) {
		return false
	}
	if len(types) == 0 {
		return len(rows) == 0
	}
	heads := firstHeads(rows)
	switch {
	case r[0].hasHead():
		heads = []head{r[0].head}
	case len(heads) == 0:
		return s.isUseful(list.Transform(rows, row.rest), r.rest(), types[1:])
	default:
		heads = s.asked(types[0], heads)
	}
	for _, h := range heads {
		if s.isSpent() {
			return false
		}
		parts := s.parts(types[0], h)
		special := detail{0, h, len(parts)}
		inside, _ := special.row(r)
		if s.isUseful(selected(rows, special.row), inside, replaced(types, 0, parts)) {
			return true
		}
	}
	return false
}

// missing returns patterns for the types that no row covers, and whether there are some.
func (s *search) missing(rows []row, types []string) (row, bool) {
	if !s.ask(len(rows)) {
		return nil, false
	}
	if len(types) == 0 {
		return nil, len(rows) == 0
	}
	heads := firstHeads(rows)
	if len(heads) == 0 {
		found, is := s.missing(list.Transform(rows, row.rest), types[1:])
		return append(row{&shape{}}, found...), is
	}
	for _, h := range s.asked(types[0], heads) {
		if s.isSpent() {
			return nil, false
		}
		parts := s.parts(types[0], h)
		special := detail{0, h, len(parts)}
		found, is := s.missing(selected(rows, special.row), replaced(types, 0, parts))
		if is {
			first := &shape{h, found[:len(parts)]}
			return append(row{first}, found[len(parts):]...), true
		}
	}
	return nil, false
}
