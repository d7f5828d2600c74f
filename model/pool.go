package model

import (
	"cmp"
	"strconv"
	"strings"

	"entail/api"
)

const (
	maxDeep = 80
	maxKeys = 32
	// tooLarge stands for all sizes that are not counted any more.
	tooLarge = 1 << 40
	// maxOwned is the number of values that fit into the greatest result for which anything is promised.
	maxOwned = 1 << 25
)

// The places of the truth values in each pool.
const (
	no = iota
	yes
)

// stored is a value in a pool. Its items are the places of other values. A wide one has a collection with too many items
// in it.
type stored struct {
	kind        int
	num, text   string
	items       []int
	size, depth int
	wide        bool
}

// pool keeps values, so that equal values have one place. Values in it may be too large to be written out.
type pool struct {
	values []stored
	places map[string]int
	key    []byte
}

func newPool() *pool {
	p := &pool{places: map[string]int{}}
	p.number(api.VBool, "0")
	p.number(api.VBool, "1")
	return p
}

// keyOf returns a text that only equal values have.
func (p *pool) keyOf(v stored) []byte {
	b := strconv.AppendInt(p.key[:0], int64(v.kind), 10)
	for _, s := range [2]string{v.num, v.text} {
		b = strconv.AppendInt(append(b, ' '), int64(len(s)), 10)
		b = append(append(b, ' '), s...)
	}
	for _, item := range v.items {
		b = strconv.AppendInt(append(b, ' '), int64(item), 10)
	}
	p.key = b
	return b
}

// put returns the place of a value. The pool keeps its items.
func (p *pool) put(v stored) int {
	key := p.keyOf(v)
	if place, found := p.places[string(key)]; found {
		return place
	}
	v.size, v.depth, v.wide = 1, 1, len(v.items) > maxItems(v.kind)
	for _, item := range v.items {
		inside := p.values[item]
		v.size = min(v.size+inside.size, tooLarge)
		v.depth = max(v.depth, inside.depth+1)
		v.wide = v.wide || inside.wide
	}
	place := len(p.values)
	p.places[string(key)] = place
	p.values = append(p.values, v)
	return place
}

// cut removes the values from a place on.
func (p *pool) cut(from int) {
	for _, v := range p.values[from:] {
		delete(p.places, string(p.keyOf(v)))
	}
	p.values = p.values[:from]
}

// maxItems returns the greatest number of items of a kind of values.
func maxItems(kind int) int {
	if kind == api.VMap {
		return 1 + 2*maxKeys
	}
	return api.MaxItems
}

// number puts a value that is a number.
func (p *pool) number(kind int, s string) int { return p.put(stored{kind: kind, num: s}) }

// list puts a value that has items alone.
func (p *pool) list(kind int, items []int) int { return p.put(stored{kind: kind, items: items}) }

// made puts a value of a constructor.
func (p *pool) made(constructor string, items []int) int {
	return p.put(stored{kind: api.VCons, text: constructor, items: items})
}

func truth(is bool) int {
	if is {
		return yes
	}
	return no
}

// isTooLarge reports whether a value is too large to be a value of its sort.
func (p *pool) isTooLarge(place int) bool {
	v := &p.values[place]
	return v.size > api.MaxNodes || v.depth > maxDeep || v.wide
}

// compare compares two values. Items that are the same need not be looked at.
func (p *pool) compare(a, b int) int {
	if a == b {
		return 0
	}
	v, w := &p.values[a], &p.values[b]
	if way := compareAlone(v.kind, w.kind, v.num, w.num, v.text, w.text, len(v.items), len(w.items)); way != 0 {
		return way
	}
	for i := range v.items {
		if way := p.compare(v.items[i], w.items[i]); way != 0 {
			return way
		}
	}
	return 0
}

// compareAlone compares what two values are without their items.
func compareAlone(kind, kind2 int, num, num2, text, text2 string, items, items2 int) int {
	return cmp.Or(cmp.Compare(kind, kind2), cmp.Compare(len(num), len(num2)), strings.Compare(num, num2), strings.Compare(text, text2), cmp.Compare(items, items2))
}

// ordered is a value as it is compared with others.
type ordered api.Value

func (a ordered) compare(b ordered) int {
	if way := compareAlone(a.Kind, b.Kind, a.Num, b.Num, a.Text, b.Text, len(a.Items), len(b.Items)); way != 0 {
		return way
	}
	for i := range a.Items {
		if way := ordered.compare(ordered(a.Items[i]), ordered(b.Items[i])); way != 0 {
			return way
		}
	}
	return 0
}

// taker puts a value of an argument, as long as it is not too large.
type taker struct {
	*pool
	left int
}

// take puts a value, and reports whether it is not too large to be a value of any sort.
func (p *pool) take(v api.Value) (int, bool) {
	t := taker{p, api.MaxNodes}
	return t.take(v, maxDeep)
}

func (t *taker) take(v api.Value, levels int) (int, bool) {
	t.left--
	if t.left < 0 || levels == 0 {
		return 0, false
	}
	var items []int
	for _, item := range v.Items {
		place, fits := t.take(item, levels-1)
		if !fits {
			return 0, false
		}
		items = append(items, place)
	}
	return t.put(stored{kind: v.Kind, num: v.Num, text: v.Text, items: items}), true
}

// giver writes out values for results. They share no memory, unless they are too large for that.
type giver struct {
	*pool
	left   int
	shared map[int]api.Value
}

func (p *pool) giver() *giver { return &giver{p, maxOwned, map[int]api.Value{}} }

// give writes out a value.
func (g *giver) give(place int) api.Value {
	size := g.values[place].size
	if size > g.left {
		return g.share(place)
	}
	g.left -= size
	return g.owned(place)
}

// share writes out a value in which equal parts share their memory.
func (g *giver) share(place int) api.Value {
	v, found := g.shared[place]
	if !found {
		v = g.written(place, g.share)
		g.shared[place] = v
	}
	return v
}

func (g *giver) owned(place int) api.Value { return g.written(place, g.owned) }

// written writes out a value, and its items by a function.
func (g *giver) written(place int, item func(int) api.Value) api.Value {
	v := &g.values[place]
	out := api.Value{Kind: v.kind, Num: v.num, Text: v.text}
	for _, i := range v.items {
		out.Items = append(out.Items, item(i))
	}
	return out
}
