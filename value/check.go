package value

import (
	"iter"
	"strings"

	"entail/api"
	"entail/num"
)

const (
	maxWidth  = 64
	maxObject = 99999
	colons    = "::"
)

// placed is a value with its level in another one.
type placed struct {
	api.Value
	level int
}

// inside visits a value and all values in it, each one before its items.
func inside(v api.Value) iter.Seq[placed] {
	return func(yield func(placed) bool) {
		placed{v, 1}.visit(yield)
	}
}

// visit reports whether the visit goes on.
func (p placed) visit(yield func(placed) bool) bool {
	if !yield(p) {
		return false
	}
	for _, item := range p.Items {
		if !(placed{item, p.level + 1}).visit(yield) {
			return false
		}
	}
	return true
}

// rule is the form of the values of a kind: which fields they use, and how many items they have at most. The order of
// two items that follow each other, or of two keys, is at least the given one.
type rule struct {
	hasNum, hasText bool
	items           int
	order           int
	form            func(api.Value) bool
}

// The orders of items.
const (
	anyOrder = iota - 1
	ascending
	strictlyAscending
)

// rules returns the forms of all kinds.
func rules() [api.Kinds]rule {
	return [api.Kinds]rule{
		api.VBool:  {hasNum: true, form: isTruth},
		api.VInt:   {hasNum: true, form: isInteger},
		api.VReal:  {hasNum: true, form: func(v api.Value) bool { return num.CheckReal(v.Num) == api.OK }},
		api.VBits:  {hasNum: true, hasText: true, form: func(v api.Value) bool { return isInteger(v) && widthOf(v.Text) > 0 }},
		api.VSeq:   {items: api.MaxItems, order: anyOrder, form: isAny},
		api.VSet:   {items: api.MaxItems, order: strictlyAscending, form: isAny},
		api.VMulti: {items: api.MaxItems, order: ascending, form: isAny},
		api.VMap:   {items: 2 * api.MaxItems, order: strictlyAscending, form: func(v api.Value) bool { return len(v.Items)%2 == 0 }},
		api.VCons:  {hasText: true, items: api.MaxItems, order: anyOrder, form: func(v api.Value) bool { return isConstructor(v.Text) }},
		api.VRef:   {hasNum: true, form: isObject},
	}
}

func isAny(api.Value) bool { return true }

func isTruth(v api.Value) bool { return v.Num == "0" || v.Num == "1" }

func isInteger(v api.Value) bool { return num.Check(v.Num) == api.OK }

func isObject(v api.Value) bool {
	n, e := num.ToInt(v.Num)
	return e == api.OK && 0 <= n && n <= maxObject
}

// widthOf returns the width that is written as a number, or 0.
func widthOf(s string) int {
	n, e := num.ToInt(s)
	if e != api.OK || n < 1 || n > maxWidth {
		return 0
	}
	return n
}

// isConstructor reports whether a string is a name, or two names with two colons between them.
func isConstructor(s string) bool {
	module, name, found := strings.Cut(s, colons)
	return isWord(module) && (!found || isWord(name))
}

func isWord(s string) bool {
	if s == "" || len(s) > api.MaxName {
		return false
	}
	for i, c := range s {
		if !isLetter(c) && (i == 0 || !isWordRune(c)) {
			return false
		}
	}
	return true
}

func isLetter(c rune) bool { return 'a' <= c && c <= 'z' || 'A' <= c && c <= 'Z' }

func isDigit(c rune) bool { return '0' <= c && c <= '9' }

func isWordRune(c rune) bool { return isLetter(c) || isDigit(c) || c == '_' }

// checker checks values, and counts them.
type checker struct {
	rules [api.Kinds]rule
	count int
}

func (c *checker) check(p placed) api.Errno {
	c.count++
	if c.count > api.MaxNodes {
		return api.ErrLarge
	}
	if e := c.checkAlone(p); e != api.OK {
		return e
	}
	for _, item := range p.Items {
		if e := c.check(placed{item, p.level + 1}); e != api.OK {
			return e
		}
	}
	return c.checkOrder(p)
}

// checkAlone returns the first error of a value, without its items.
func (c *checker) checkAlone(p placed) api.Errno {
	if p.level > api.MaxDepth {
		return api.ErrDeep
	}
	if p.Kind < 0 || p.Kind >= api.Kinds {
		return api.ErrKind
	}
	r := c.rules[p.Kind]
	switch {
	case !r.hasNum && p.Num != "", !r.hasText && p.Text != "", r.items == 0 && len(p.Items) > 0:
		return api.ErrForm
	case len(p.Items) > r.items:
		return api.ErrMany
	case !r.form(p.Value):
		return api.ErrForm
	case p.Kind == api.VBits:
		_, e := bits(num.BitAdd, p.Text, p.Num, "0")
		return e
	}
	return api.OK
}

// checkOrder returns ErrOrder if the items are not in the order of their kind.
func (c *checker) checkOrder(p placed) api.Errno {
	step := stepOf(p.Kind)
	for i := step; i < len(p.Items); i += step {
		if compare(p.Items[i], p.Items[i-step]) < c.rules[p.Kind].order {
			return api.ErrOrder
		}
	}
	return api.OK
}

// stepOf returns the distance of elements, or of keys, among the items.
func stepOf(kind int) int {
	if kind == api.VMap {
		return 2
	}
	return 1
}

// bits applies an operation to two bit vectors of a width.
func bits(op int, width, a, b string) (string, api.Errno) {
	return num.Bits(op, widthOf(width), a, b)
}
