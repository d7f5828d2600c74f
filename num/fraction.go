package num

import (
	"strings"

	"entail/api"
)

// fraction is a quotient; its lower part is positive.
type fraction struct {
	upper, lower signed
}

// reduced returns the fraction in lowest terms.
func (f fraction) reduced() fraction {
	common := f.upper.gcd(f.lower.magnitude)
	upper, _ := f.upper.magnitude.divide(common)
	lower, _ := f.lower.magnitude.divide(common)
	return fraction{number(upper, f.upper.negative), number(lower, false)}
}

// ratio returns x / y in lowest terms, where y is not zero.
func ratio(x, y signed) fraction {
	if y.negative {
		x, y = x.negated(), y.negated()
	}
	return fraction{x, y}.reduced()
}

// parseFraction reads a fraction.
func parseFraction(s string) fraction {
	upper, lower, _ := strings.Cut(s, "/")
	return fraction{parse(upper), parse(lower)}
}

// String returns the two parts with a slash.
func (f fraction) String() string {
	return f.upper.String() + "/" + f.lower.String()
}

// result returns the string of a fraction in lowest terms, or ErrLarge.
func (f fraction) result() (string, api.Errno) {
	if e := firstError(transform([]signed{f.upper, f.lower}, fits)...); e != api.OK {
		return "", e
	}
	return f.String(), api.OK
}

func (f fraction) plus(g fraction) fraction {
	sum := f.upper.times(g.lower).plus(g.upper.times(f.lower))
	return ratio(sum, f.lower.times(g.lower))
}

func (f fraction) minus(g fraction) fraction {
	return f.plus(fraction{g.upper.negated(), g.lower})
}

func (f fraction) times(g fraction) fraction {
	return ratio(f.upper.times(g.upper), f.lower.times(g.lower))
}

// over returns f / g, where g is not zero.
func (f fraction) over(g fraction) fraction {
	return ratio(f.upper.times(g.lower), f.lower.times(g.upper))
}

func (f fraction) compare(g fraction) int {
	if f == g {
		return 0
	}
	return f.upper.times(g.lower).compare(g.upper.times(f.lower))
}

// decimalParts splits a decimal literal at its point.
func decimalParts(s string) (string, string, bool) {
	whole, part, found := strings.Cut(s, ".")
	return whole, part, found && areDigits(whole) && areDigits(part)
}
