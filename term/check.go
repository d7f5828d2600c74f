package term

import (
	"slices"

	"entail/api"
	"entail/list"
)

const maxVariables = 100

// checkVariables returns the first error of given variables.
func (c *catalog) checkVariables(vars []api.Bound) api.Errno {
	if len(vars) > maxVariables {
		return api.ErrMany
	}
	for i, v := range vars {
		if e := list.FirstError(checkVariable(v.Name, hasName(vars[:i], v.Name)), c.checkSort(v.Sort)); e != api.OK {
			return e
		}
	}
	return api.OK
}

// checkSorts returns the first error of the sorts in a term that has its form.
func (c *catalog) checkSorts(t api.Terms, vars []api.Bound) api.Errno {
	for p := range places(t) {
		if e := c.checkPlace(t, vars, p); e != api.OK {
			return e
		}
	}
	return api.OK
}

// kidSorts returns the sorts of the children of a node.
func kidSorts(t api.Terms, n api.Term) []string {
	return list.Transform(n.Kids, func(kid int) string { return t[kid].Sort })
}

// checkPlace returns the error of the sorts of a node.
func (c *catalog) checkPlace(t api.Terms, vars []api.Bound, p place) api.Errno {
	switch p.Op {
	case api.LVar:
		return checkOccurrence(t, vars, p)
	case api.LApp:
		return c.checkApplication(kidSorts(t, p.Term), p.Term)
	case api.LForall, api.LExists:
		body := t[p.Kids[len(p.Kids)-1]]
		if !isBool(body.Sort) {
			return api.ErrSort
		}
		return list.FirstError(list.Transform(list.Transform(p.Vars, sortOf), c.checkSort)...)
	}
	if k, found := connectiveOf(p.Op); found {
		if sort, right := k.sort(kidSorts(t, p.Term)); !right || sort != p.Sort {
			return api.ErrSort
		}
	}
	return api.OK
}

// checkOccurrence returns the error of a variable.
func checkOccurrence(t api.Terms, vars []api.Bound, p place) api.Errno {
	k := placeOf(vars, p.Name)
	if by := p.owner(t); by != nobody {
		vars, k = t[by.quantifier].Vars, by.place
	}
	switch {
	case k < 0:
		return api.ErrUnknown
	case vars[k] != api.Bound{Name: p.Name, Sort: p.Sort}:
		return api.ErrSort
	}
	return api.OK
}

// checkApplication returns the error of an application to arguments of some sorts.
func (c *catalog) checkApplication(args []string, n api.Term) api.Errno {
	f, found := c.function(n.Name)
	switch {
	case !found:
		return api.ErrUnknown
	case len(args) != len(f.Args):
		return api.ErrArgs
	case !slices.Equal(args, f.Args) || n.Sort != f.Sort:
		return api.ErrSort
	}
	return api.OK
}
