package model

import (
	"maps"
	"slices"

	"entail/api"
	"entail/list"
	"entail/num"
)

const (
	maxFormulas = 50
	maxLimit    = 100000
	maxKept     = 1 << 18 // of the values that evaluations have made
	fewElements = 3       // of a sort that is neither small nor a sort of numbers
)

// decision is one of the elements of a sort as the result of a function for some arguments. Its conflict is the earlier
// decisions because of which the elements before it are wrong.
type decision struct {
	table    int
	args     []int
	key      string
	element  int
	asked    int // the last evaluation that asked for it
	conflict map[int]bool
}

// search looks for results of functions with which all formulas are true. A result is decided when a formula first asks for
// it, so that what no formula asks for is never tried.
type search struct {
	*interpretation
	numbers   map[int][]int // the elements of the sorts of numbers
	elements  map[int][]int
	isElement map[[2]int]bool // by sort and element
	formulas  []*evaluation
	strict    []*evaluation
	decisions []decision
	decided   []map[string]int // for each function the decisions by their keys
	last      []int            // for each formula the last decision that it asked for, or -1
	asking    int              // counts evaluations
	latest    int              // the last decision that this evaluation asked for, or -1
	base      int              // how many values there were before the first evaluation
	room      int              // how many more are kept
	lists     map[scope][]int  // the lists of elements before the first evaluation
	failed    api.Errno
}

// newSearch returns the search for models of formulas, or the error of all candidates.
func newSearch(w *world, formulas []api.Terms) (*search, api.Errno) {
	in := &interpretation{world: w, domains: map[int][]int{}}
	s := &search{interpretation: in, numbers: map[int][]int{}, elements: map[int][]int{}, isElement: map[[2]int]bool{}, last: make([]int, len(formulas))}
	s.fillNumbers(formulas)
	if e := s.fillDomains(formulas); e != api.OK {
		return nil, e
	}
	for _, f := range w.sig.Funs {
		r := w.newResults(f)
		r.other = w.zero(r.sort)
		if w.isTooLarge(r.other) || len(s.elementsOf(r.sort)) == 0 {
			return nil, api.ErrLarge
		}
		for _, arg := range r.args {
			s.elementsOf(arg)
		}
		s.tables = append(s.tables, r)
		s.decided = append(s.decided, map[string]int{})
	}
	for _, t := range formulas {
		s.formulas = append(s.formulas, evaluationOf(in, t, nil, true, s.choose))
		s.strict = append(s.strict, evaluationOf(in, t, nil, false, s.chosen))
	}
	s.base, s.room, s.lists = len(s.values), maxKept, maps.Clone(w.lists)
	return s, api.OK
}

// tidy forgets the values that evaluations have made, if they are many. Decisions are about elements alone, which were
// there before.
func (s *search) tidy() {
	if len(s.values) <= s.base+s.room {
		return
	}
	s.cut(s.base)
	s.world.lists = maps.Clone(s.lists)
}

// fillNumbers finds the elements of Int and Real: 0 and 1, and the numerals and their neighbours.
func (s *search) fillNumbers(formulas []api.Terms) {
	sorts := []struct {
		name      string
		zero, one string
		add, sub  func(a, b string) (string, api.Errno)
	}{{api.SortInt, "0", "1", num.Add, num.Sub}, {api.SortReal, "0/1", "1/1", num.AddReal, num.SubReal}}
	for _, row := range sorts {
		numerals := []string{row.zero, row.one}
		for _, n := range slices.Concat(formulas...) {
			if n.Op != api.LNum || n.Sort != row.name {
				continue
			}
			above, e := row.add(n.Name, row.one)
			below, f := row.sub(n.Name, row.one)
			s.note(list.FirstError(e, f))
			numerals = append(numerals, n.Name, above, below)
		}
		s.addNumbers(s.sort(row.name), numerals)
	}
}

// addNumbers adds the elements of a sort of numbers. Those that are too large are empty, and left out.
func (s *search) addNumbers(sort int, numerals []string) {
	kinds := map[int]int{anInt: api.VInt, aReal: api.VReal}
	seen := map[string]bool{"": true}
	for _, n := range numerals {
		if !seen[n] {
			seen[n] = true
			s.numbers[sort] = append(s.numbers[sort], s.number(kinds[s.sorts[sort].kind], n))
		}
	}
}

// note keeps the first error that a search without a model can end with.
func (s *search) note(e api.Errno) {
	if s.failed == api.OK && e != api.ErrType {
		s.failed = e
	}
}

// elementsOf returns the elements of a sort that are not too large.
func (s *search) elementsOf(sort int) []int {
	found, known := s.elements[sort]
	if known {
		return found
	}
	switch {
	case s.isSmall(sort):
		found = s.all(sort)
	case s.numbers[sort] != nil:
		found = s.numbers[sort]
	default:
		found = s.world.elements(scope{sort, fewElements, noDepth})
	}
	if slices.ContainsFunc(found, s.isTooLarge) {
		s.note(api.ErrLarge)
		found = slices.DeleteFunc(slices.Clone(found), s.isTooLarge)
	}
	s.elements[sort] = found
	for _, element := range found {
		s.isElement[[2]int{sort, element}] = true
	}
	return found
}

// fillDomains gives domains to Int and Real, and to the sorts of variables that are not small.
func (s *search) fillDomains(formulas []api.Terms) api.Errno {
	asked := []int{}
	for _, n := range slices.Concat(formulas...) {
		for _, v := range n.Vars {
			asked = append(asked, s.sort(v.Sort))
		}
	}
	for _, sort := range append([]int{s.sort(api.SortInt), s.sort(api.SortReal)}, asked...) {
		if s.isSmall(sort) {
			continue
		}
		values := s.elementsOf(sort)
		switch {
		case len(values) == 0:
			return api.ErrLarge
		case len(values) <= maxDomain:
			s.domains[sort] = values
		case slices.Contains(asked, sort):
			return api.ErrMany
		}
	}
	return api.OK
}

// choose returns the result of a function for some arguments, which is decided if it was not.
func (s *search) choose(table int, args []int) int {
	r := &s.tables[table]
	key := s.key(args)
	at, found := s.decided[table][key]
	if !found {
		for i, arg := range args {
			if !s.isElement[[2]int{r.args[i], arg}] {
				return r.other
			}
		}
		at = len(s.decisions)
		s.decided[table][key] = at
		s.decisions = append(s.decisions, decision{table: table, args: slices.Clone(args), key: key, conflict: map[int]bool{}})
	}
	s.decisions[at].asked = s.asking
	s.latest = max(s.latest, at)
	return s.result(s.decisions[at])
}

// chosen returns the result of a function for some arguments, as far as it is decided.
func (s *search) chosen(table int, args []int) int {
	if at, found := s.decided[table][s.key(args)]; found {
		return s.result(s.decisions[at])
	}
	return s.tables[table].other
}

// result returns the result that is decided.
func (s *search) result(d decision) int { return s.elements[s.tables[d.table].sort][d.element] }

// run reports whether there are results with which all formulas are true. All that it tries are different candidates.
func (s *search) run(limit int) (bool, api.Errno) {
	from := 0
	for range limit {
		conflict, fails := s.evaluate(from)
		if !fails {
			if s.isModel() {
				return true, api.OK
			}
			conflict = s.askedBy(func(decision) bool { return true })
		}
		at := s.back(conflict)
		if at < 0 {
			return false, s.failed
		}
		s.tidy()
		// What the formulas before this one asked for is as it was.
		from = slices.IndexFunc(s.last, func(last int) bool { return last >= at })
	}
	return false, api.ErrLimit
}

// evaluate evaluates the formulas from one on until one is not true, and returns the decisions that it asked for.
func (s *search) evaluate(from int) (map[int]bool, bool) {
	for i := from; i < len(s.formulas); i++ {
		s.asking++
		s.latest = -1
		result, e := s.formulas[i].run()
		s.last[i] = s.latest
		s.note(e)
		if e != api.OK || result == no {
			return s.askedBy(func(d decision) bool { return d.asked == s.asking }), true
		}
	}
	return nil, false
}

// askedBy returns the decisions of which something is true.
func (s *search) askedBy(is func(decision) bool) map[int]bool {
	found := map[int]bool{}
	for i, d := range s.decisions {
		if is(d) {
			found[i] = true
		}
	}
	return found
}

// isModel reports whether all formulas are true if all of their nodes are evaluated, and the tables are not too long.
func (s *search) isModel() bool {
	for _, t := range s.listed() {
		if len(t) > maxEntries {
			s.note(api.ErrMany)
			return false
		}
	}
	for _, f := range s.strict {
		result, e := f.run()
		s.note(e)
		if e != api.OK || result == no {
			return false
		}
	}
	return true
}

// back takes the next element for the last decision of a conflict that has another one, and forgets the decisions behind
// it. It returns this decision, or -1.
func (s *search) back(conflict map[int]bool) int {
	for len(conflict) > 0 {
		at := -1
		for i := range conflict {
			at = max(at, i)
		}
		s.forget(at + 1)
		d := &s.decisions[at]
		for i := range conflict {
			if i != at {
				d.conflict[i] = true
			}
		}
		if d.element+1 < len(s.elements[s.tables[d.table].sort]) {
			d.element++
			return at
		}
		conflict = d.conflict
	}
	return -1
}

// forget removes the decisions from one on.
func (s *search) forget(from int) {
	for _, d := range s.decisions[from:] {
		delete(s.decided[d.table], d.key)
	}
	s.decisions = s.decisions[:from]
}

// listed returns for each function the decisions that differ from the result for all other arguments.
func (s *search) listed() [][]decision {
	out := make([][]decision, len(s.tables))
	for _, d := range s.decisions {
		if s.result(d) != s.tables[d.table].other {
			out[d.table] = append(out[d.table], d)
		}
	}
	return out
}

// model returns the model with the results that are decided.
func (s *search) model(size int) Model {
	g := s.giver()
	m := Model{Universes: universes(s.sig, size)}
	for sort := range s.sorts {
		if values, found := s.domains[sort]; found {
			m.Domains = append(m.Domains, Domain{s.sorts[sort].name, list.Transform(values, g.give)})
		}
	}
	for i, listed := range s.listed() {
		entries := list.Transform(listed, func(d decision) Entry { return Entry{list.Transform(d.args, g.give), g.give(s.result(d))} })
		m.Tables = append(m.Tables, Table{s.sig.Funs[i].Name, entries, g.give(s.tables[i].other)})
	}
	return m
}
