// Package list has the few operations on lists that the layers from stage 2 on share.
package list

import "entail/api"

// FirstError returns the first error of a list, or OK.
func FirstError(errors ...api.Errno) api.Errno {
	for _, e := range errors {
		if e != api.OK {
			return e
		}
	}
	return api.OK
}

// Transform applies a function to each element of a list.
func Transform[A, B any](elements []A, apply func(A) B) []B {
	out := make([]B, 0, len(elements))
	for _, x := range elements {
		out = append(out, apply(x))
	}
	return out
}
