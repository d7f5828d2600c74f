package lex

import (
	"slices"
	"strings"

	"entail/api"
)

const (
	noneAfter  = "( [ # ! ."
	noneBefore = ") ] , ; . ? ["
)

// joiner decides where spaces are needed between tokens.
type joiner struct {
	scanner
	after, before map[string]bool
}

// checkToken returns the first error of a token.
func (k scanner) checkToken(t Token) api.Errno {
	if t.Kind < Name || t.Kind > Sign {
		return api.ErrKind
	}
	if checkText(t.Text) != api.OK || !k.readsAs(t) {
		return api.ErrForm
	}
	return api.OK
}

// splits reports whether two texts without a space between them are read as the two tokens.
func (j joiner) splits(pair [2]Token) bool {
	var got [2]Token
	n := 0
	for p, e := range j.places(pair[0].Text + pair[1].Text) {
		if e != api.OK || n == len(got) {
			return false
		}
		got[n] = p.Token
		got[n].At = 0
		n++
	}
	return got == pair
}

// spaced reports whether there is a space between two tokens.
func (j joiner) spaced(pair [2]Token) bool {
	left, right := pair[0], pair[1]
	if left.Text == "." && (right.Kind == Number || right.Kind == Decimal) {
		return true
	}
	if !j.after[left.Text] && !j.before[right.Text] {
		return true
	}
	return !j.splits(pair)
}

// Join returns a text with the given tokens.
func Join(l []Token) (string, api.Errno) {
	if len(l) > maxTokens {
		return "", api.ErrMany
	}
	j := joiner{newScanner(), wordSet(noneAfter), wordSet(noneBefore)}
	if e := firstError(transform(l, j.checkToken)...); e != api.OK {
		return "", e
	}
	list := slices.Clone(l)
	for i := range list {
		list[i].At = 0
	}
	var text strings.Builder
	for i, t := range list {
		if i > 0 && j.spaced([2]Token{list[i-1], t}) {
			text.WriteByte(' ')
		}
		text.WriteString(t.Text)
		if text.Len() > api.MaxText {
			return "", api.ErrLong
		}
	}
	return text.String(), api.OK
}
