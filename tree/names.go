package tree

import (
	"strings"

	"entail/api"
)

const (
	colons     = "::"
	maxWidth   = 64
	maxDecimal = 40
)

// isKeyword reports whether a word is a keyword of chapter 3.
func isKeyword(s string) bool {
	switch s {
	case "array", "as", "assert", "assume", "bool", "by", "calc", "call", "case", "class", "const", "datatype", "decreases",
		"else", "ensures", "exists", "export", "false", "forall", "fresh", "function", "fuel", "ghost", "greatest", "hidden",
		"if", "import", "in", "int", "invariant", "least", "lemma", "map", "match", "method", "modifies", "module",
		"multiset", "new", "old", "opaque", "print", "reads", "real", "refines", "requires", "return", "returns", "reveal",
		"seq", "set", "then", "true", "type", "var", "while", "witness":
		return true
	}
	width, found := strings.CutPrefix(s, "bv")
	return found && isWidth(width)
}

func isLetter(c rune) bool { return 'a' <= c && c <= 'z' || 'A' <= c && c <= 'Z' }

func isDigit(c rune) bool { return '0' <= c && c <= '9' }

func areDigits(s string) bool {
	for _, c := range s {
		if !isDigit(c) {
			return false
		}
	}
	return s != ""
}

// isWord reports whether a string is an unqualified name.
func isWord(s string) bool {
	if s == "" || len(s) > api.MaxName {
		return false
	}
	for i, c := range s {
		if !isLetter(c) && (i == 0 || !isDigit(c) && c != '_') {
			return false
		}
	}
	return !isKeyword(s)
}

func isLower(s string) bool { return isWord(s) && 'a' <= s[0] }

func isUpper(s string) bool { return isWord(s) && s[0] <= 'Z' }

// isGlobal reports whether a string is a name of one case, or a qualified name whose second part is one.
func isGlobal(s string, isName func(string) bool) bool {
	module, name, found := strings.Cut(s, colons)
	if !found {
		return isName(s)
	}
	return isUpper(module) && isName(name)
}

func isGlobalLower(s string) bool { return isGlobal(s, isLower) }

func isGlobalUpper(s string) bool { return isGlobal(s, isUpper) }

func isQualified(s string) bool { return strings.Contains(s, colons) }

func isEmpty(s string) bool { return s == "" }

func isLowerOrEmpty(s string) bool { return s == "" || isLower(s) }

func isUpperOrEmpty(s string) bool { return s == "" || isUpper(s) }

// isDigitsOfNumber reports whether a string is digits without leading zeros.
func isDigitsOfNumber(s string) bool {
	return areDigits(s) && (s == "0" || s[0] != '0')
}

func isNumber(s string) bool {
	return len(s) <= api.MaxDigits && isDigitsOfNumber(s)
}

// isWidth reports whether a string is a number from 1 to 64.
func isWidth(s string) bool {
	if len(s) > 2 || !isDigitsOfNumber(s) {
		return false
	}
	n := 0
	for _, c := range s {
		n = n*10 + int(c-'0')
	}
	return 1 <= n && n <= maxWidth
}

func isDecimal(s string) bool {
	whole, part, found := strings.Cut(s, ".")
	if len(s) > maxDecimal || !found || !isDigitsOfNumber(whole) || !areDigits(part) {
		return false
	}
	return part == "0" || !strings.HasSuffix(part, "0")
}

func isTruth(s string) bool { return s == "true" || s == "false" }

// isRelation reports whether a string is the relation of a step; the last step of a calculation has none.
func isRelation(s string) bool {
	switch s {
	case "", "==", "==>", "<=", "<":
		return true
	}
	return false
}

func isMark(s string) bool {
	switch s {
	case "ghost", "opaque", "hidden", "least", "greatest", "lemma":
		return true
	}
	fuel, found := strings.CutPrefix(s, "fuel ")
	return found && len(fuel) == 1 && areDigits(fuel)
}

// isExported reports whether a string is a name of an export list.
func isExported(s string) bool { return isWord(strings.TrimPrefix(s, "+")) }
