package lex

import (
	"iter"
	"strings"

	"entail/api"
)

const (
	keywordText = "array as assert assume bool by calc call case class const datatype decreases else ensures exists export " +
		"false forall fresh function fuel ghost greatest hidden if import in int invariant least lemma map match method " +
		"modifies module multiset new old opaque print reads real refines requires return returns reveal seq set then true " +
		"type var while witness"
	signText = "! != # % & && ( ) * + , - . .. / : :: := :| ; < <= <==> << = == ==> => > >= >> ? [ ] ^ { | || }"
	colons   = "::"
	wild     = "_"
	longest  = 4
	maxWidth = 64
)

// place is a token with the offset of its end.
type place struct {
	Token
	end int
}

// scanner holds the words and signs that rules look up.
type scanner struct {
	keywords map[string]bool
	signs    map[string]bool
}

// rule reads a token of one form at the beginning of a text; without one it returns a place that ends at 0.
type rule struct {
	read func(scanner, string) (place, api.Errno)
}

func newScanner() scanner {
	return scanner{wordSet(keywordText), wordSet(signText + " " + wild)}
}

// wordSet returns the words of a text as a set.
func wordSet(text string) map[string]bool {
	words := strings.Fields(text)
	set := make(map[string]bool, len(words))
	for _, w := range words {
		set[w] = true
	}
	return set
}

// nameRules returns the rules of names, which need no signs.
func nameRules() []rule {
	return []rule{{scanner.qualified}, {scanner.word}}
}

// rules returns all rules in the order in which they are tried.
func rules() []rule {
	return append(nameRules(), rule{scanner.number}, rule{scanner.sign})
}

func isLetter(c rune) bool { return 'a' <= c && c <= 'z' || 'A' <= c && c <= 'Z' }

func isDigit(c rune) bool { return '0' <= c && c <= '9' }

func isWordRune(c rune) bool { return isLetter(c) || isDigit(c) || c == '_' }

// prefix returns the length of the longest prefix of a text whose characters all fulfil a condition.
func prefix(s string, holds func(c rune) bool) int {
	for i, c := range s {
		if !holds(c) {
			return i
		}
	}
	return len(s)
}

// wordLength returns the length of the word at the beginning of a text, or 0.
func wordLength(s string) int {
	if prefix(s, isLetter) == 0 {
		return 0
	}
	return prefix(s, isWordRune)
}

// first returns a place of the first n bytes of a text.
func first(s string, kind, n int) place {
	return place{Token{Kind: kind, Text: s[:n]}, n}
}

// isKeyword reports whether a word is a keyword; those of bit vectors are not in the list.
func (k scanner) isKeyword(w string) bool {
	if k.keywords[w] {
		return true
	}
	width, found := strings.CutPrefix(w, "bv")
	if !found || len(width) > 2 || prefix(width, isDigit) < len(width) || strings.HasPrefix(width, "0") {
		return false
	}
	n := 0
	for _, c := range width {
		n = n*10 + int(c-'0')
	}
	return 1 <= n && n <= maxWidth
}

// qualified reads a qualified name. Where its second word is too long, so is the name.
func (k scanner) qualified(s string) (place, api.Errno) {
	n := wordLength(s)
	if n == 0 || n > api.MaxName || 'a' <= s[0] || !strings.HasPrefix(s[n:], colons) {
		return place{}, api.OK
	}
	start := n + len(colons)
	m := wordLength(s[start:])
	if m > api.MaxName {
		return place{}, api.ErrName
	}
	if m == 0 || k.isKeyword(s[start:start+m]) {
		return place{}, api.OK
	}
	return first(s, Name, start+m), api.OK
}

func (k scanner) word(s string) (place, api.Errno) {
	n := wordLength(s)
	if n > api.MaxName {
		return place{}, api.ErrName
	}
	if k.isKeyword(s[:n]) {
		return first(s, Keyword, n), api.OK
	}
	return first(s, Name, n), api.OK
}

// number reads a number or a decimal.
func (k scanner) number(s string) (place, api.Errno) {
	n := prefix(s, isDigit)
	if n == 0 {
		return place{}, api.OK
	}
	kind, end := Number, n
	if rest, found := strings.CutPrefix(s[n:], "."); found && prefix(rest, isDigit) > 0 {
		kind, end = Decimal, n+1+prefix(rest, isDigit)
	}
	if n > 1 && s[0] == '0' || prefix(s[end:], isWordRune) > 0 {
		return place{}, api.ErrSyntax
	}
	return first(s, kind, end), api.OK
}

// sign reads the longest sign.
func (k scanner) sign(s string) (place, api.Errno) {
	for i := range longest {
		n := longest - i
		if n <= len(s) && k.signs[s[:n]] {
			return first(s, Sign, n), api.OK
		}
	}
	return place{}, api.ErrSyntax
}

// read reads the token at the beginning of a text by the first rule that finds one.
func (k scanner) read(s string, rules []rule) (place, api.Errno) {
	for _, r := range rules {
		p, e := r.read(k, s)
		if e != api.OK || p.end > 0 {
			return p, e
		}
	}
	return place{}, api.ErrSyntax
}

// skip returns the offset of the next token behind spaces and comments; with an error that of the comment.
func skip(s string, at int) (int, api.Errno) {
	for {
		at += prefix(s[at:], func(c rune) bool { return c == ' ' || c == '\t' || c == '\n' || c == '\r' })
		length := 0
		switch {
		case strings.HasPrefix(s[at:], "//"):
			length = prefix(s[at:], func(c rune) bool { return c != '\n' })
		case strings.HasPrefix(s[at:], "/*"):
			inside := strings.Index(s[at+2:], "*/")
			if inside < 0 {
				return at, api.ErrSyntax
			}
			length = inside + 4
		default:
			return at, api.OK
		}
		at += length
	}
}

// places visits the tokens of a text up to the first error, which comes with its offset.
func (k scanner) places(s string) iter.Seq2[place, api.Errno] {
	return func(yield func(place, api.Errno) bool) {
		table := rules()
		at := 0
	text:
		for {
			start, e := skip(s, at)
			var p place
			switch {
			case e == api.OK && start == len(s):
				break text
			case e == api.OK:
				p, e = k.read(s[start:], table)
			}
			p.At = start
			at = start + p.end
			p.end = at
			if !yield(p, e) || e != api.OK {
				break text
			}
		}
	}
}

// readsAs reports whether the text of a token is read as this token, alone.
func (k scanner) readsAs(t Token) bool {
	t.At = 0
	alone := false
	for p, e := range k.places(t.Text) {
		if e != api.OK || p.Token != t {
			return false
		}
		alone = true
	}
	return alone
}
