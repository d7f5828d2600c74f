package calls

import (
	"iter"
	"slices"

	"entail/api"
	"entail/module"
)

// callable is a function or a method with the indices of its first and last node.
type callable struct {
	api.Node
	first, last int
}

// call is a call of one callable by another one.
type call struct {
	from, to int
}

// graph is the callables of a flat program, without those that have the name of an earlier one.
type graph struct {
	tree      api.Tree
	callables []callable
	named     map[string]int
	calls     [][]int // what each one calls, each once
}

// graphOf returns the graph of a tree that module.Names accepts.
func graphOf(p api.Tree) *graph {
	g := &graph{tree: p, named: map[string]int{}}
	first := 0
	for d := range declarations(p) {
		d.first = first
		first = d.last + 1
		if _, again := g.named[d.Text]; again || !d.isCallable() {
			continue
		}
		g.named[d.Text] = len(g.callables)
		g.callables = append(g.callables, d)
	}
	g.calls = make([][]int, len(g.callables))
	for i := range g.callables {
		g.calls[i] = slices.Collect(g.callees(i))
	}
	return g
}

// declarations visits the children of the module of a flat program; their first nodes are not found out.
func declarations(p api.Tree) iter.Seq[callable] {
	return func(yield func(callable) bool) {
		for _, kid := range p[len(p)-2].Kids {
			if !yield(callable{Node: p[kid], last: kid}) {
				return
			}
		}
	}
}

func (c callable) name() string { return c.Text }

func (c callable) isCallable() bool { return c.Op == api.DFunction || c.Op == api.DMethod }

// isDeclaration reports whether a child of a module declares something.
func (c callable) isDeclaration() bool {
	return c.Op != api.MImport && c.Op != api.MExport && c.Op != api.MRefines
}

// callableIn returns the graph of a flat program, and the index of the callable with a name.
func callableIn(p api.Tree, name string) (*graph, int, api.Errno) {
	if _, e := module.Names(p); e != api.OK {
		return nil, 0, e
	}
	for d := range declarations(p) {
		if d.Text != name || !d.isDeclaration() {
			continue
		}
		if !d.isCallable() {
			return nil, 0, api.ErrKind
		}
		g := graphOf(p)
		return g, g.named[name], api.OK
	}
	return nil, 0, api.ErrUnknown
}

func (g *graph) name(i int) string { return g.callables[i].name() }

// callees visits what a callable calls, in the order of the first calls.
func (g *graph) callees(from int) iter.Seq[int] {
	return func(yield func(int) bool) {
		seen := map[call]bool{}
		c := g.callables[from]
		for node := range c.last - c.first {
			n := g.tree[c.first+node]
			if n.Op != api.ECall && n.Op != api.SCall {
				continue
			}
			to, found := g.named[n.Text]
			if !found || seen[call{from, to}] {
				continue
			}
			seen[call{from, to}] = true
			if !yield(to) {
				return
			}
		}
	}
}

// reachedFrom reports for each callable whether a callable reaches it by at least one call.
func (g *graph) reachedFrom(from int) []bool {
	reached := make([]bool, len(g.callables))
	work := slices.Clone(g.calls[from])
	for len(work) > 0 {
		last := len(work) - 1
		i := work[last]
		work = work[:last]
		if !reached[i] {
			reached[i] = true
			work = append(work, g.calls[i]...)
		}
	}
	return reached
}

func (g *graph) isRecursive(i int) bool { return g.reachedFrom(i)[i] }

// The states of a component.
const (
	waiting = iota
	taken
)

// component is callables that are together, in the order of the program, and the components that they call.
type component struct {
	members []int
	calls   []int
	state   int
}

// components returns the components in their order.
func (g *graph) components() [][]int {
	parts := g.parts()
	var order [][]int
next:
	for range parts {
		for i := range parts {
			if parts[i].state == waiting && parts[i].isReady(parts) {
				parts[i].state = taken
				order = append(order, slices.Clone(parts[i].members))
				continue next
			}
		}
	}
	return order
}

// isReady reports whether a component calls only itself and what has been taken.
func (c component) isReady(parts []component) bool {
	return !slices.ContainsFunc(c.calls, func(i int) bool { return parts[i].state == waiting })
}

// parts returns the components by their first callables.
func (g *graph) parts() []component {
	home := g.homes()
	place := map[int]int{}
	var parts []component
	for i, first := range home {
		if first == i {
			place[i] = len(parts)
			parts = append(parts, component{})
		}
		c := &parts[place[first]]
		c.members = append(c.members, i)
	}
	for i, calls := range g.calls {
		for _, to := range calls {
			if c := &parts[place[home[i]]]; home[to] != home[i] {
				c.calls = append(c.calls, place[home[to]])
			}
		}
	}
	return parts
}

// homes returns for each callable the first one of its component.
func (g *graph) homes() []int {
	home := slices.Repeat([]int{-1}, len(g.callables))
	callers := g.callers()
	for i := range g.callables {
		if home[i] >= 0 {
			continue
		}
		home[i] = i
		forth, back := g.reachedFrom(i), callers.reachedFrom(i)
		for j := range g.callables {
			if forth[j] && back[j] {
				home[j] = i
			}
		}
	}
	return home
}

// callers returns the graph with all calls turned round.
func (g *graph) callers() *graph {
	turned := &graph{callables: g.callables, calls: make([][]int, len(g.callables))}
	for from, calls := range g.calls {
		for _, to := range calls {
			turned.calls[to] = append(turned.calls[to], from)
		}
	}
	return turned
}
