package pattern

import (
	"slices"

	"entail/list"
)

const maxTests = 1000

// numbered is a row with the number of its case.
type numbered struct {
	row
	number int
}

// column is a place in rows: the path to the part that is there, and its type.
type column struct {
	path []int
	typ  string
}

// part returns the column of a part of what is in a column.
func (c column) part(i int, typ string) column {
	return column{append(slices.Clone(c.path), i), typ}
}

// compiler makes a decision tree.
type compiler struct {
	*search
	tests []Test
}

// isSpent reports whether there are too many rows or tests.
func (c *compiler) isSpent() bool { return c.search.isSpent() || len(c.tests) > maxTests }

// compile appends the tests of some rows, and returns the index of the first one.
func (c *compiler) compile(rows []numbered, columns []column) int {
	at := len(c.tests)
	c.ask(len(rows))
	c.tests = append(c.tests, Test{Leaf: true, Case: -1})
	if len(rows) == 0 || c.isSpent() {
		return at
	}
	place, found := firstPlace(rows[0].row)
	if !found {
		c.tests[at].Case = rows[0].number
		return at
	}
	// The test is appended before those that it leads to, and completed behind them.
	test := c.branch(rows, columns, place)
	c.tests[at] = test
	return at
}

// firstPlace returns the first place at which a row has a head.
func firstPlace(r row) (int, bool) {
	place, found := 0, false
search:
	for i, s := range r {
		switch s.kind {
		case noHead:
			continue
		default:
			place, found = i, true
			break search
		}
	}
	return place, found
}

// branch returns the test of the part in a column.
func (c *compiler) branch(rows []numbered, columns []column, at int) Test {
	tested := columns[at]
	heads := headsOf(list.Transform(rows, func(r numbered) *shape { return r.row[at] }))
	test := Test{Path: slices.Clone(tested.path), Labels: list.Transform(heads, head.label), Else: -1}
	for _, h := range heads {
		var parts []column
		for i, typ := range c.parts(tested.typ, h) {
			parts = append(parts, tested.part(i, typ))
		}
		special := detail{at, h, len(parts)}
		next := c.compile(selected(rows, special.numbered), replaced(columns, at, parts))
		test.Next = append(test.Next, next)
	}
	if !c.areAll(tested.typ, heads) {
		test.Else = c.compile(others(rows, at), replaced(columns, at, nil))
	}
	return test
}

// areAll reports whether different heads of a type are all that it has.
func (c *compiler) areAll(typ string, heads []head) bool {
	all, complete := c.meaning(typ).heads()
	return complete && len(all) == len(heads)
}

// numbered returns the case that is made of one with the head or none at the place.
func (d detail) numbered(r numbered) (numbered, bool) {
	s, fits := d.row(r.row)
	return numbered{s, r.number}, fits
}

// others returns the cases without a head at a place, without this place.
func others(rows []numbered, at int) []numbered {
	return selected(rows, func(r numbered) (numbered, bool) {
		return numbered{replaced(r.row, at, nil), r.number}, !r.row[at].hasHead()
	})
}
