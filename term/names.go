package term

import (
	"strings"

	"entail/api"
	"entail/num"
)

const (
	maxSymbol = 200 // bytes of a name
	testWord  = "is$"
)

// areNameBytes reports whether a string has the length of a name, and none of the bytes that names do not have.
func areNameBytes(s string) bool {
	for _, c := range s {
		switch c {
		case ' ', '\n', '(', ')', '{', '}':
			return false
		}
	}
	return s != "" && len(s) <= maxSymbol
}

// isVariable reports whether a string can be the name of a variable.
func isVariable(s string) bool { return areNameBytes(s) }

// isReserved reports whether a string is a word with a meaning of its own in texts.
func isReserved(s string) bool {
	switch s {
	case "true", "false", "not", "and", "or", "iff", "ite", "forall", "exists", "+", "*", "<", "<=":
		return true
	}
	return false
}

func isDigit(c byte) bool { return '0' <= c && c <= '9' }

// isSymbol reports whether a string can be the name of a function, unless that is interpreted.
func isSymbol(s string) bool {
	return areNameBytes(s) && !isReserved(s) && !isDigit(s[0]) && !strings.ContainsRune("-?!=", rune(s[0]))
}

// isDeclarable reports whether a string can be the name of a declared sort.
func isDeclarable(s string) bool {
	switch s {
	case api.SortBool, api.SortInt, api.SortReal:
		return false
	}
	depth := 0
	for _, c := range s {
		switch c {
		case '<':
			depth++
		case '>':
			depth--
		case ',':
			if depth == 0 {
				return false
			}
		}
		if depth < 0 {
			return false
		}
	}
	return depth == 0 && areNameBytes(s)
}

// isNumeral reports whether a string is an integer or a fraction.
func isNumeral(s string) bool {
	return isNumeralOf(api.SortInt, s) || isNumeralOf(api.SortReal, s)
}

// isNumeralOf reports whether a string is a numeral of a sort.
func isNumeralOf(sort, s string) bool {
	switch sort {
	case api.SortInt:
		return num.Check(s) == api.OK
	case api.SortReal:
		return num.CheckReal(s) == api.OK
	}
	return false
}

func isEmpty(s string) bool { return s == "" }

func isNotEmpty(s string) bool { return s != "" }

func isBool(sort string) bool { return sort == api.SortBool }

func isNumber(sort string) bool { return sort == api.SortInt || sort == api.SortReal }
