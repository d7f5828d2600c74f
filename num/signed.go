package num

import "entail/api"

// signed is a magnitude with its sign; zero is not negative.
type signed struct {
	magnitude
	negative bool
}

// number gives a magnitude a sign.
func number(m magnitude, negative bool) signed {
	return signed{m, negative && !m.isZero()}
}

// parse reads an integer.
func parse(s string) signed {
	if s[0] == '-' {
		return number(parseMagnitude(s[1:]), true)
	}
	return number(parseMagnitude(s), false)
}

// String returns the decimal string.
func (x signed) String() string {
	if x.negative {
		return "-" + x.magnitude.String()
	}
	return x.magnitude.String()
}

// fits returns ErrLarge if a number has too many digits for a result.
func fits(x signed) api.Errno {
	if x.digits() > api.MaxDigits {
		return api.ErrLarge
	}
	return api.OK
}

// result returns the string of a number, or ErrLarge.
func (x signed) result() (string, api.Errno) {
	if e := fits(x); e != api.OK {
		return "", e
	}
	return x.String(), api.OK
}

func (x signed) negated() signed {
	return number(x.magnitude, !x.negative)
}

func (x signed) plus(y signed) signed {
	if x.negative == y.negative {
		return number(x.magnitude.plus(y.magnitude), x.negative)
	}
	if x.magnitude.compare(y.magnitude) < 0 {
		x, y = y, x
	}
	return number(x.distance(y.magnitude), x.negative)
}

func (x signed) times(y signed) signed {
	return number(x.magnitude.times(y.magnitude), x.negative != y.negative)
}

// divide returns the quotient and the remainder that is not negative, where y is not zero.
func (x signed) divide(y signed) (signed, signed) {
	quotient, rest := x.magnitude.divide(y.magnitude)
	if x.negative && !rest.isZero() {
		quotient = quotient.plus(small(1))
		rest = y.minus(rest)
	}
	return number(quotient, x.negative != y.negative), number(rest, false)
}

func (x signed) compare(y signed) int {
	switch {
	case x.negative && !y.negative:
		return -1
	case y.negative && !x.negative:
		return 1
	case x.negative:
		return y.magnitude.compare(x.magnitude)
	}
	return x.magnitude.compare(y.magnitude)
}
