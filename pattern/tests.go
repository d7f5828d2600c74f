package pattern

import (
	"slices"
	"strconv"
	"strings"

	"entail/api"
	"entail/list"
)

const maxPath = 60

// checkTable returns the first error of a decision tree with its test. Only earlier tests lead to a test.
func checkTable(d []Test) (int, api.Errno) {
	leading := make([]int, len(d))
	for i, t := range d {
		if e := list.FirstError(t.checkForm(), t.checkOrder(i, len(d)), checkLeading(i, leading[i])); e != api.OK {
			return i, e
		}
		for _, next := range t.next() {
			leading[next]++
		}
	}
	return 0, api.OK
}

// checkForm returns the first error of a test alone.
func (t Test) checkForm() api.Errno {
	switch {
	case t.Leaf:
		return t.checkLeaf()
	case t.Case != 0:
		return api.ErrForm
	case len(t.Labels) == 0:
		return api.ErrEmpty
	case len(t.Next) != len(t.Labels):
		return api.ErrShape
	case hasTwice(t.Labels):
		return api.ErrTwice
	case len(t.Path) > maxPath || slices.ContainsFunc(t.Path, func(n int) bool { return n < 0 }):
		return api.ErrRange
	}
	return api.OK
}

func (t Test) checkLeaf() api.Errno {
	children := [2]int{len(t.Next), t.Else}
	switch {
	case t.Case < -1 || t.Case >= maxPatterns:
		return api.ErrRange
	case len(t.Path) > 0 || len(t.Labels) > 0 || children != [2]int{}:
		return api.ErrForm
	}
	return api.OK
}

func hasTwice(labels []string) bool {
	seen := map[string]bool{}
	for _, label := range labels {
		if seen[label] {
			return true
		}
		seen[label] = true
	}
	return false
}

// next returns the tests that a test leads to.
func (t Test) next() []int {
	next := slices.Clone(t.Next)
	if !t.Leaf && t.Else != -1 {
		next = append(next, t.Else)
	}
	return next
}

// checkOrder returns ErrOrder if a test with an index leads to another one that is not later.
func (t Test) checkOrder(index, count int) api.Errno {
	if slices.ContainsFunc(t.next(), func(n int) bool { return n <= index || n >= count }) {
		return api.ErrOrder
	}
	return api.OK
}

// checkLeading returns the error of a test to which some tests lead.
func checkLeading(index, leading int) api.Errno {
	switch {
	case leading > 1:
		return api.ErrTwice
	case leading == 0 && index > 0:
		return api.ErrOpen
	}
	return api.OK
}

// run returns the case of a value, and how many tests were made.
func run(d []Test, v api.Value) (int, int, api.Errno) {
	at, made := 0, 0
	for !d[at].Leaf {
		t := d[at]
		made++
		part, found := partAt(v, t.Path)
		if !found {
			return 0, 0, api.ErrKind
		}
		at = t.Else
		if i := slices.Index(t.Labels, headOf(part)); i >= 0 {
			at = t.Next[i]
		}
		if at < 0 {
			return 0, 0, api.ErrMissing
		}
	}
	return d[at].Case, made, api.OK
}

// textOf returns the lines of a decision tree.
func textOf(d []Test) string {
	var b strings.Builder
	for _, line := range list.Transform(d, Test.line) {
		b.WriteString(line)
		b.WriteByte('\n')
	}
	return b.String()
}

// line returns the text of a test.
func (t Test) line() string {
	if t.Leaf {
		return "case " + strconv.Itoa(t.Case)
	}
	path := "-"
	if len(t.Path) > 0 {
		path = strings.Join(list.Transform(t.Path, strconv.Itoa), ".")
	}
	words := []string{"test", path}
	for i, label := range t.Labels {
		words = append(words, label, "->", strconv.Itoa(t.Next[i]))
	}
	if t.Else != -1 {
		words = append(words, "else", strconv.Itoa(t.Else))
	}
	return strings.Join(words, " ")
}
