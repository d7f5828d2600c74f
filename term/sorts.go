package term

import (
	"slices"
	"strings"

	"entail/api"
	"entail/list"
)

const maxSort = 400 // bytes of a sort

// The kinds of sorts.
const (
	aSort = "Sort"
	aData = "Data"
	aSeq  = "Seq"
	aSet  = "Set"
	aMap  = "Map"
)

// operation is a function that each sort of a kind has. Of the sorts of its arguments and of its result, S is the sort
// itself, 1 and 2 are the sorts in its brackets, I is Int, B is Bool and R is Real.
type operation struct {
	kind, word, args, result string
}

var operations = [...]operation{
	{"Map", "select", "S1", "2"}, {"Map", "store", "S12", "S"}, {"Map", "const", "2", "S"}, {"Map", "diff", "SS", "1"},
	{"Seq", "len", "S", "I"}, {"Seq", "at", "SI", "1"}, {"Seq", "empty", "", "S"}, {"Seq", "one", "1", "S"}, {"Seq", "cat", "SS", "S"},
	{"Seq", "put", "SI1", "S"}, {"Seq", "cut", "SII", "S"}, {"Seq", "pre", "SS", "B"}, {"Seq", "diff", "SS", "I"},
	{"Set", "has", "S1", "B"}, {"Set", "empty", "", "S"}, {"Set", "one", "1", "S"}, {"Set", "join", "SS", "S"}, {"Set", "meet", "SS", "S"},
	{"Set", "less", "SS", "S"}, {"Set", "sub", "SS", "B"}, {"Set", "size", "S", "I"}, {"Set", "diff", "SS", "1"},
	{"Int", "div", "SS", "S"}, {"Int", "mod", "SS", "S"}, {"Int", "real", "S", "R"}, {"Real", "floor", "S", "I"},
}

// parted is a sort that is taken apart.
type parted struct {
	kind  string
	parts []string
}

// catalog is the sorts and functions of a signature.
type catalog struct {
	declared  map[string]string // the kinds of declared sorts
	sorts     map[string]parted // what is known of other strings; nothing of those that are no sorts
	functions map[string]api.Fun
}

// brackets returns the words before the brackets of a sort, and what stands in them, divided by commas.
func brackets(sort string) (string, []string) {
	word, rest, found := strings.Cut(sort, "<")
	inside, closed := strings.CutSuffix(rest, ">")
	if !found || !closed {
		return "", nil
	}
	var parts []string
	depth, from := 0, 0
	for i, c := range inside {
		switch {
		case c == '<':
			depth++
		case c == '>':
			depth--
		case c == ',' && depth == 0:
			parts = append(parts, inside[from:i])
			from = i + 1
		}
	}
	return word, append(parts, inside[from:])
}

// parts returns the kind of a sort and the sorts in its brackets.
func (c *catalog) parts(sort string) (parted, bool) {
	if kind, found := c.declared[sort]; found {
		return parted{kind: kind}, true
	}
	p, known := c.sorts[sort]
	if !known {
		p = c.takeApart(sort)
		c.sorts[sort] = p
	}
	return p, p.kind != ""
}

// takeApart returns the parts of a sort that is not declared, or nothing.
func (c *catalog) takeApart(sort string) parted {
	switch {
	case isBool(sort) || isNumber(sort):
		return parted{kind: sort}
	case len(sort) > maxSort:
		return parted{}
	}
	word, parts := brackets(sort)
	wanted := map[string]int{aSeq: 1, aSet: 1, aMap: 2}[word]
	if wanted == 0 || len(parts) != wanted || slices.ContainsFunc(parts, c.isNoSort) {
		return parted{}
	}
	return parted{word, parts}
}

func (c *catalog) isNoSort(sort string) bool {
	_, found := c.parts(sort)
	return !found
}

// checkSort returns ErrSort for a string that is not a sort.
func (c *catalog) checkSort(sort string) api.Errno {
	if c.isNoSort(sort) {
		return api.ErrSort
	}
	return api.OK
}

// interpreted returns an interpreted function.
func (c *catalog) interpreted(name string) (api.Fun, bool) {
	word, sort, found := strings.Cut(name, "$")
	if !found {
		return api.Fun{}, false
	}
	of, _ := c.parts(sort)
	for _, o := range operations {
		if o.word == word && o.kind == of.kind {
			return api.Fun{Name: name, Args: of.sortsOf(o.args, sort), Sort: of.sortsOf(o.result, sort)[0]}, true
		}
	}
	return api.Fun{}, false
}

// sortsOf returns the sorts that an operation on a sort has.
func (p parted) sortsOf(letters, sort string) []string {
	var sorts []string
	for _, c := range letters {
		switch c {
		case 'S':
			sorts = append(sorts, sort)
		case '1', '2':
			sorts = append(sorts, p.parts[c-'1'])
		case 'I':
			sorts = append(sorts, api.SortInt)
		case 'B':
			sorts = append(sorts, api.SortBool)
		case 'R':
			sorts = append(sorts, api.SortReal)
		}
	}
	return sorts
}

// function returns the function with a name.
func (c *catalog) function(name string) (api.Fun, bool) {
	if f, found := c.functions[name]; found {
		return api.Fun{Name: f.Name, Args: slices.Clone(f.Args), Sort: f.Sort}, true
	}
	return c.interpreted(name)
}

// checkSymbol returns the error of the name of a function, which another one may have.
func (c *catalog) checkSymbol(name string, twice bool) api.Errno {
	if _, found := c.interpreted(name); found || !isSymbol(name) {
		return api.ErrName
	}
	if twice {
		return api.ErrTwice
	}
	return api.OK
}

// has reports whether a function with a name has been added.
func (c *catalog) has(name string) bool {
	_, found := c.functions[name]
	return found
}

func (c *catalog) add(name, sort string, args ...string) {
	c.functions[name] = api.Fun{Name: name, Args: args, Sort: sort}
}

// addConstructors adds the constructors, the selectors and the tests of a datatype.
func (c *catalog) addConstructors(d api.Datatype) {
	for _, made := range d.Cons {
		c.add(made.Name, d.Sort, list.Transform(made.Fields, sortOf)...)
		c.add(testWord+made.Name, api.SortBool, d.Sort)
		for _, f := range made.Fields {
			c.add(f.Name, f.Sort, d.Sort)
		}
	}
}

func sortOf(b api.Bound) string { return b.Sort }
