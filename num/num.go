// Package num is layer 1: see shared/doc/01-num.md.
package num

import (
	"strconv"
	"strings"

	"entail/api"
)

// The operations on bit vectors.
const (
	BitAdd = iota
	BitSub
	BitMul
	BitDiv
	BitMod
	BitAnd
	BitOr
	BitXor
	BitShl
	BitShr
	BitOps
)

const maxPower = 1000

// firstError returns the first error of a list, or OK.
func firstError(list ...api.Errno) api.Errno {
	for _, e := range list {
		if e != api.OK {
			return e
		}
	}
	return api.OK
}

// transform applies a function to each element of a list.
func transform[A, B any](list []A, apply func(A) B) []B {
	out := make([]B, 0, len(list))
	for _, x := range list {
		out = append(out, apply(x))
	}
	return out
}

// firstOf returns the error of the first string that a check rejects.
func firstOf(check func(string) api.Errno, list ...string) api.Errno {
	return firstError(transform(list, check)...)
}

// areDigits reports whether a string is one or more digits.
func areDigits(s string) bool {
	for _, c := range s {
		if c < '0' || c > '9' {
			return false
		}
	}
	return s != ""
}

// Check returns the first error of the decimal string of an integer, or OK.
func Check(s string) api.Errno {
	digits := strings.TrimPrefix(s, "-")
	if !areDigits(digits) || digits[0] == '0' && s != "0" {
		return api.ErrForm
	}
	if len(digits) > api.MaxDigits {
		return api.ErrLarge
	}
	return api.OK
}

// FromInt returns the decimal string of an integer.
func FromInt(n int) string {
	return strconv.Itoa(n)
}

// ToInt returns the value of a decimal string as an int.
func ToInt(s string) (int, api.Errno) {
	if e := Check(s); e != api.OK {
		return 0, e
	}
	n, err := strconv.Atoi(s)
	if err != nil {
		return 0, api.ErrLarge
	}
	return n, api.OK
}

// Neg returns the negative of an integer.
func Neg(a string) (string, api.Errno) {
	if e := Check(a); e != api.OK {
		return "", e
	}
	return parse(a).negated().result()
}

// integers applies an operation to two integers.
func integers(a, b string, apply func(x, y signed) signed) (string, api.Errno) {
	if e := firstOf(Check, a, b); e != api.OK {
		return "", e
	}
	return apply(parse(a), parse(b)).result()
}

// Add returns the sum of two integers.
func Add(a, b string) (string, api.Errno) {
	return integers(a, b, signed.plus)
}

// Sub returns the difference of two integers.
func Sub(a, b string) (string, api.Errno) {
	return integers(a, b, func(x, y signed) signed { return x.plus(y.negated()) })
}

// Mul returns the product of two integers.
func Mul(a, b string) (string, api.Errno) {
	return integers(a, b, signed.times)
}

// DivMod returns the quotient and the remainder of two integers.
func DivMod(a, b string) (string, string, api.Errno) {
	if e := firstOf(Check, a, b); e != api.OK {
		return "", "", e
	}
	divisor := parse(b)
	if divisor.isZero() {
		return "", "", api.ErrDivide
	}
	quotient, rest := parse(a).divide(divisor)
	if e := firstError(fits(quotient), fits(rest)); e != api.OK {
		return "", "", e
	}
	return quotient.String(), rest.String(), api.OK
}

// Compare returns -1, 0 or 1 for two integers.
func Compare(a, b string) (int, api.Errno) {
	if e := firstOf(Check, a, b); e != api.OK {
		return 0, e
	}
	return parse(a).compare(parse(b)), api.OK
}

// Pow returns a power of an integer.
func Pow(a string, n int) (string, api.Errno) {
	if e := Check(a); e != api.OK {
		return "", e
	}
	if n < 0 || n > maxPower {
		return "", api.ErrRange
	}
	base, power := parse(a), number(small(1), false)
	for range n {
		power = power.times(base)
		// A power that is too large stays so: its factors are not zero.
		if e := fits(power); e != api.OK {
			return "", e
		}
	}
	return power.result()
}

// Gcd returns the greatest common divisor of two integers.
func Gcd(a, b string) (string, api.Errno) {
	return integers(a, b, func(x, y signed) signed { return number(x.gcd(y.magnitude), false) })
}

// CheckReal returns the first error of a fraction, or OK.
func CheckReal(s string) api.Errno {
	upper, lower, found := strings.Cut(s, "/")
	if !found || strings.Contains(lower, "/") {
		return api.ErrForm
	}
	if e := firstOf(Check, upper, lower); e != api.OK {
		return e
	}
	f := parseFraction(s)
	if f.lower.negative || f.lower.isZero() || f != f.reduced() {
		return api.ErrForm
	}
	return api.OK
}

// Real returns the fraction of two integers in lowest terms.
func Real(p, q string) (string, api.Errno) {
	if e := firstOf(Check, p, q); e != api.OK {
		return "", e
	}
	lower := parse(q)
	if lower.isZero() {
		return "", api.ErrDivide
	}
	return ratio(parse(p), lower).result()
}

// Parts returns the numerator and the denominator of a fraction.
func Parts(s string) (string, string, api.Errno) {
	if e := CheckReal(s); e != api.OK {
		return "", "", e
	}
	f := parseFraction(s)
	return f.upper.String(), f.lower.String(), api.OK
}

// FromDecimal returns the fraction of a literal with a decimal point.
func FromDecimal(s string) (string, api.Errno) {
	whole, part, found := decimalParts(s)
	if !found {
		return "", api.ErrForm
	}
	if len(whole)+len(part) > api.MaxDigits {
		return "", api.ErrLarge
	}
	lower := parseMagnitude("1" + strings.Repeat("0", len(part)))
	return ratio(number(parseMagnitude(whole+part), false), number(lower, false)).result()
}

// fractions applies an operation to two fractions.
func fractions(a, b string, apply func(f, g fraction) fraction) (string, api.Errno) {
	if e := firstOf(CheckReal, a, b); e != api.OK {
		return "", e
	}
	return apply(parseFraction(a), parseFraction(b)).result()
}

// AddReal returns the sum of two fractions.
func AddReal(a, b string) (string, api.Errno) {
	return fractions(a, b, fraction.plus)
}

// SubReal returns the difference of two fractions.
func SubReal(a, b string) (string, api.Errno) {
	return fractions(a, b, fraction.minus)
}

// MulReal returns the product of two fractions.
func MulReal(a, b string) (string, api.Errno) {
	return fractions(a, b, fraction.times)
}

// DivReal returns the quotient of two fractions.
func DivReal(a, b string) (string, api.Errno) {
	if e := firstOf(CheckReal, a, b); e != api.OK {
		return "", e
	}
	divisor := parseFraction(b)
	if divisor.upper.isZero() {
		return "", api.ErrDivide
	}
	return parseFraction(a).over(divisor).result()
}

// CompareReal returns -1, 0 or 1 for two fractions.
func CompareReal(a, b string) (int, api.Errno) {
	if e := firstOf(CheckReal, a, b); e != api.OK {
		return 0, e
	}
	return parseFraction(a).compare(parseFraction(b)), api.OK
}

// Floor returns the greatest integer that is not above a fraction.
func Floor(s string) (string, api.Errno) {
	if e := CheckReal(s); e != api.OK {
		return "", e
	}
	f := parseFraction(s)
	floor, _ := f.upper.divide(f.lower)
	return floor.result()
}
