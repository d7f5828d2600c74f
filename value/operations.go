package value

import (
	"slices"

	"entail/api"
	"entail/num"
)

// The kinds of arguments that are not kinds of values.
const (
	anything = iota - 2
	sameBits // bit vectors of one width
)

// effect is what an operation does with its arguments.
type effect func(l []api.Value) (api.Value, api.Errno)

// operation is what an Op does with arguments of some kinds. One that is open takes any number of arguments.
type operation struct {
	kinds []int
	open  bool
	apply effect
}

// arguments are the values that an operation is applied to.
type arguments []api.Value

// operations returns what an Op can do.
func operations(op int) []operation {
	var found []operation
	for _, group := range []func(int) []operation{logic, comparisons, arithmetic, bitwise, combinations, accesses, displays} {
		found = append(found, group(op)...)
	}
	return found
}

// fit reports whether the arguments have the kinds that an operation takes.
func (l arguments) fit(o operation) bool {
	var pair [2]sort
	for i, kind := range o.kinds {
		switch kind {
		case anything:
			continue
		case sameBits:
			pair[i] = sortOf(l[i])
			kind = api.VBits
		}
		if l[i].Kind != kind {
			return false
		}
	}
	return pair == [2]sort{pair[0], pair[0]}
}

// operationFor returns the operation for some arguments.
func operationFor(op int, l arguments) (operation, api.Errno) {
	found := operations(op)
	switch {
	case len(found) == 0:
		return operation{}, api.ErrKind
	case len(l) > 2*api.MaxItems:
		return operation{}, api.ErrMany
	case !found[0].open && len(l) != len(found[0].kinds), op == api.EMap && len(l)%2 != 0:
		return operation{}, api.ErrArgs
	}
	i := slices.IndexFunc(found, l.fit)
	if i < 0 {
		return operation{}, api.ErrKind
	}
	return found[i], api.OK
}

// on makes an operation on two values of one kind.
func on(kind int, apply effect) operation {
	return operation{kinds: []int{kind, kind}, apply: apply}
}

func truthOf(b bool) api.Value {
	if b {
		return api.Value{Kind: api.VBool, Num: "1"}
	}
	return api.Value{Kind: api.VBool, Num: "0"}
}

func isTrue(v api.Value) bool { return v.Num == "1" }

// deciding returns the effect of an operation that tells whether something is true of two values.
func deciding(holds func(a, b api.Value) bool) effect {
	return func(l []api.Value) (api.Value, api.Errno) { return truthOf(holds(l[0], l[1])), api.OK }
}

// logic returns the operations on truth values.
func logic(op int) []operation {
	table := []struct {
		op    int
		holds func(a, b bool) bool
	}{
		{api.EAnd, func(a, b bool) bool { return a && b }}, {api.EOr, func(a, b bool) bool { return a || b }},
		{api.EImp, func(a, b bool) bool { return !a || b }}, {api.EIff, func(a, b bool) bool { return a == b }},
	}
	for _, row := range table {
		if row.op == op {
			return []operation{on(api.VBool, deciding(func(a, b api.Value) bool { return row.holds(isTrue(a), isTrue(b)) }))}
		}
	}
	if op == api.ENot {
		negation := func(l []api.Value) (api.Value, api.Errno) { return truthOf(!isTrue(l[0])), api.OK }
		return []operation{{kinds: []int{api.VBool}, apply: negation}}
	}
	return nil
}

// comparisons returns the operations that compare two values. Of two collections, one may be in the other one.
func comparisons(op int) []operation {
	table := []struct {
		op, most int // the greatest order of two numbers, or of the lengths of two collections
	}{{api.ELt, -1}, {api.ELe, 0}}
	switch op {
	case api.EEq:
		return []operation{on(anything, deciding(equal))}
	case api.ENe:
		return []operation{on(anything, deciding(func(a, b api.Value) bool { return !equal(a, b) }))}
	}
	for _, row := range table {
		if row.op != op {
			continue
		}
		ordered := deciding(func(a, b api.Value) bool { return compare(a, b) <= row.most })
		within := func(holds func(a, b api.Value) bool) effect {
			return deciding(func(a, b api.Value) bool { return len(a.Items)-len(b.Items) <= row.most && holds(a, b) })
		}
		return []operation{on(api.VInt, ordered), on(api.VReal, ordered), on(sameBits, ordered),
			on(api.VSeq, within(isPrefix)), on(api.VSet, within(isPart)), on(api.VMulti, within(isPart))}
	}
	return nil
}

// computation is an operation of package num on two integers or two fractions.
type computation func(a, b string) (string, api.Errno)

// arithmetic returns the operations on numbers.
func arithmetic(op int) []operation {
	table := []struct {
		op                  int
		integers, fractions computation
		bits                int
	}{
		{api.EAdd, num.Add, num.AddReal, num.BitAdd}, {api.ESub, num.Sub, num.SubReal, num.BitSub}, {api.EMul, num.Mul, num.MulReal, num.BitMul},
		{api.EDiv, quotient, num.DivReal, num.BitDiv}, {api.EMod, remainder, nil, num.BitMod},
	}
	if op == api.ENeg {
		return []operation{
			{kinds: []int{api.VInt}, apply: negated("0", computed(num.Sub))}, {kinds: []int{api.VReal}, apply: negated("0/1", computed(num.SubReal))},
			{kinds: []int{api.VBits}, apply: negated("0", combined(num.BitSub))},
		}
	}
	var found []operation
	for _, row := range table {
		if row.op != op {
			continue
		}
		found = append(found, on(api.VInt, computed(row.integers)), on(sameBits, combined(row.bits)))
		if row.fractions != nil {
			found = append(found, on(api.VReal, computed(row.fractions)))
		}
	}
	return found
}

func quotient(a, b string) (string, api.Errno) {
	q, _, e := num.DivMod(a, b)
	return q, e
}

func remainder(a, b string) (string, api.Errno) {
	_, r, e := num.DivMod(a, b)
	return r, e
}

// computed returns the effect of an operation on two integers or two fractions.
func computed(f computation) effect {
	return func(l []api.Value) (api.Value, api.Errno) {
		n, e := f(l[0].Num, l[1].Num)
		return api.Value{Kind: l[0].Kind, Num: n}, e
	}
}

// combined returns the effect of an operation on bit vectors; the result has the width of the first one.
func combined(op int) effect {
	return func(l []api.Value) (api.Value, api.Errno) {
		n, e := bits(op, l[0].Text, l[0].Num, l[1].Num)
		return api.Value{Kind: api.VBits, Num: n, Text: l[0].Text}, e
	}
}

// negated returns the effect of an operation on one number, by the difference of zero and this number.
func negated(zero string, difference effect) effect {
	return func(l []api.Value) (api.Value, api.Errno) {
		return difference([]api.Value{{Kind: l[0].Kind, Num: zero, Text: l[0].Text}, l[0]})
	}
}

// bitwise returns the operations on bit vectors alone.
func bitwise(op int) []operation {
	switch op {
	case api.EBitAnd:
		return []operation{on(sameBits, combined(num.BitAnd))}
	case api.EBitOr:
		return []operation{on(sameBits, combined(num.BitOr))}
	case api.EBitXor:
		return []operation{on(sameBits, combined(num.BitXor))}
	case api.EShl:
		return shifts(num.BitShl)
	case api.EShr:
		return shifts(num.BitShr)
	}
	return nil
}

// shifts returns the shifts by a bit vector of any width and by an integer.
func shifts(op int) []operation {
	return []operation{{kinds: []int{api.VBits, api.VBits}, apply: shifted(op)}, {kinds: []int{api.VBits, api.VInt}, apply: shifted(op)}}
}

// shifted returns the effect of a shift. The number may be greater than all bit vectors of the width.
func shifted(op int) effect {
	return func(l []api.Value) (api.Value, api.Errno) {
		by := l[1].Num
		if isNegative(by) {
			return api.Value{}, api.ErrRange
		}
		if order, _ := num.Compare(by, l[0].Text); order >= 0 {
			return api.Value{Kind: api.VBits, Num: "0", Text: l[0].Text}, api.OK
		}
		n, e := bits(op, l[0].Text, l[0].Num, by)
		return api.Value{Kind: api.VBits, Num: n, Text: l[0].Text}, e
	}
}

func isNegative(n string) bool { return n[0] == '-' }
