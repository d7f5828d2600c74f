// Package lex is layer 3: see shared/doc/03-lex.md.
package lex

import (
	"slices"
	"strings"

	"entail/api"
)

// The kinds of tokens.
const (
	Name    = iota // a name that is not a keyword; a qualified name (M::f) is one token
	Keyword        // 1
	Number         // 2: digits
	Decimal        // 3: digits, a dot, digits
	Sign           // 4: an operator or a punctuation mark
)

const maxTokens = 20000

// Token is a token with its byte offset in the source text.
type Token struct {
	Kind int
	Text string
	At   int
}

// firstError returns the first error of a list, or OK.
func firstError(list ...api.Errno) api.Errno {
	for _, e := range list {
		if e != api.OK {
			return e
		}
	}
	return api.OK
}

// transform applies a function to each element of a list.
func transform[A, B any](list []A, apply func(A) B) []B {
	out := make([]B, 0, len(list))
	for _, x := range list {
		out = append(out, apply(x))
	}
	return out
}

// checkText returns ErrLong for a text that is too long.
func checkText(s string) api.Errno {
	if len(s) > api.MaxText {
		return api.ErrLong
	}
	return api.OK
}

// Tokens returns the tokens of a source text, or the byte offset of the first error.
func Tokens(s string) ([]Token, int, api.Errno) {
	if e := checkText(s); e != api.OK {
		return nil, 0, e
	}
	var list []Token
	for p, e := range newScanner().places(s) {
		if e != api.OK {
			return nil, p.At, e
		}
		list = append(list, p.Token)
	}
	if len(list) > maxTokens {
		return nil, list[maxTokens].At, api.ErrMany
	}
	return list, 0, api.OK
}

// Keywords returns the keywords in ascending order.
func Keywords() []string {
	return slices.Sorted(slices.Values(strings.Fields(keywordText)))
}

// Signs returns the operators and punctuation marks in ascending order.
func Signs() []string {
	return slices.Sorted(slices.Values(strings.Fields(signText)))
}

// IsName reports whether a string is an unqualified name.
func IsName(s string) bool {
	return IsGlobal(s) && !strings.Contains(s, colons)
}

// IsGlobal reports whether a string is a name or a qualified name.
func IsGlobal(s string) bool {
	names := scanner{keywords: wordSet(keywordText)}
	p, _ := names.read(s, nameRules())
	return p.end > 0 && p.Token == Token{Kind: Name, Text: s}
}

// Split returns the module and the name of a global name.
func Split(s string) (string, string, api.Errno) {
	if !IsGlobal(s) {
		return "", "", api.ErrName
	}
	if module, name, found := strings.Cut(s, colons); found {
		return module, name, api.OK
	}
	return "", s, api.OK
}

// Position returns the line and the column of a byte offset, both from 1 on.
func Position(s string, at int) (int, int, api.Errno) {
	if e := firstError(checkText(s), checkRange(at, 0, len(s))); e != api.OK {
		return 0, 0, e
	}
	line, column := 1, 1
	for i := range at {
		column++
		if s[i] == '\n' {
			line++
			column = 1
		}
	}
	return line, column, api.OK
}

// checkRange returns ErrRange for a number that is not from low to high.
func checkRange(n, low, high int) api.Errno {
	if n < low || n > high {
		return api.ErrRange
	}
	return api.OK
}

// Offset returns the byte offset of a line and a column.
func Offset(s string, line, column int) (int, api.Errno) {
	if e := firstError(checkText(s), checkRange(line, 1, strings.Count(s, "\n")+1)); e != api.OK {
		return 0, e
	}
	start := 0
	for range line - 1 {
		start += strings.IndexByte(s[start:], '\n') + 1
	}
	length := strings.IndexByte(s[start:], '\n')
	if length < 0 {
		length = len(s) - start
	}
	if e := checkRange(column, 1, length+1); e != api.OK {
		return 0, e
	}
	return start + column - 1, api.OK
}
