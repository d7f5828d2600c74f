package num

import (
	"strconv"

	"entail/api"
)

const maxWidth = 64

// operation is an operation on bit vectors, before its result is cut to the width.
type operation struct {
	code    int
	divides bool
	apply   func(a, b uint64) uint64
}

// operations returns the operations by their codes.
func operations() map[int]operation {
	table := []operation{
		{code: BitAdd, apply: func(a, b uint64) uint64 { return a + b }},
		{code: BitSub, apply: func(a, b uint64) uint64 { return a - b }},
		{code: BitMul, apply: func(a, b uint64) uint64 { return a * b }},
		{code: BitDiv, divides: true, apply: func(a, b uint64) uint64 { return a / b }},
		{code: BitMod, divides: true, apply: func(a, b uint64) uint64 { return a % b }},
		{code: BitAnd, apply: func(a, b uint64) uint64 { return a & b }},
		{code: BitOr, apply: func(a, b uint64) uint64 { return a | b }},
		{code: BitXor, apply: func(a, b uint64) uint64 { return a ^ b }},
		{code: BitShl, apply: func(a, b uint64) uint64 { return a << b }},
		{code: BitShr, apply: func(a, b uint64) uint64 { return a >> b }},
	}
	found := map[int]operation{}
	for _, o := range table {
		found[o.code] = o
	}
	return found
}

func checkWidth(width int) api.Errno {
	if width < 1 || width > maxWidth {
		return api.ErrRange
	}
	return api.OK
}

// mask returns the greatest bit vector of a width.
func mask(width int) uint64 {
	m := uint64(0)
	for range width {
		m = m<<1 | 1
	}
	return m
}

// checkBits returns the first error of a bit vector.
func checkBits(s string, width int) api.Errno {
	if e := Check(s); e != api.OK {
		return e
	}
	n, err := strconv.ParseUint(s, 10, maxWidth)
	if err != nil || n > mask(width) {
		return api.ErrRange
	}
	return api.OK
}

// wrapped returns an integer modulo 2^64.
func wrapped(x signed) uint64 {
	n := uint64(0)
	for i := range limbCount {
		n = n*limbBase + uint64(x.limbs[limbCount-1-i])
	}
	if x.negative {
		return -n
	}
	return n
}

// Wrap returns an integer modulo a power of two.
func Wrap(s string, width int) (string, api.Errno) {
	if e := firstError(Check(s), checkWidth(width)); e != api.OK {
		return "", e
	}
	return strconv.FormatUint(wrapped(parse(s))&mask(width), 10), api.OK
}

// Bits returns the result of an operation on bit vectors.
func Bits(op, width int, a, b string) (string, api.Errno) {
	o, found := operations()[op]
	if !found {
		return "", api.ErrUnknown
	}
	if e := checkWidth(width); e != api.OK {
		return "", e
	}
	if e := firstOf(func(s string) api.Errno { return checkBits(s, width) }, a, b); e != api.OK {
		return "", e
	}
	x, y := wrapped(parse(a)), wrapped(parse(b))
	if o.divides && y == 0 {
		return "", api.ErrDivide
	}
	return strconv.FormatUint(o.apply(x, y)&mask(width), 10), api.OK
}
