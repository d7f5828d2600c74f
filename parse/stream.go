package parse

import (
	"iter"
	"slices"
	"strings"

	"entail/api"
	"entail/lex"
)

// nothing is the kind of the token behind the last one.
const nothing = -1

// stream is the tokens of a text, read from the left up to the first error. Behind an error there are no tokens, so
// that all rules end.
type stream struct {
	tokens []lex.Token
	index  int
	end    int
	fault  api.Errno
	place  int
}

func newStream(s string) stream {
	tokens, at, e := lex.Tokens(s)
	// A sign >> that closes two types is cut in two, so the list is changed.
	return stream{tokens: slices.Clone(tokens), end: len(s), fault: e, place: at}
}

// fail keeps the first error.
func (s *stream) fail(e api.Errno, at int) {
	if s.fault == api.OK {
		s.fault, s.place = e, at
	}
}

// unexpected fails at the next token.
func (s *stream) unexpected() { s.fail(api.ErrSyntax, s.next().At) }

// token returns the token that is some places behind the next one.
func (s *stream) token(offset int) lex.Token {
	if s.fault != api.OK || s.index+offset >= len(s.tokens) {
		return lex.Token{Kind: nothing, At: s.end}
	}
	return s.tokens[s.index+offset]
}

func (s *stream) next() lex.Token { return s.token(0) }

// ahead visits the next token again and again, until there is none; the loop reads on.
func (s *stream) ahead() iter.Seq[lex.Token] {
	return func(yield func(lex.Token) bool) {
		for s.next().Kind != nothing && yield(s.next()) {
		}
	}
}

// advance reads a token.
func (s *stream) advance() lex.Token {
	t := s.next()
	s.index++
	return t
}

// is reports whether the next token is a keyword or a sign.
func (s *stream) is(text string) bool { return s.next().Text == text }

// take reads a keyword or a sign, if it is there.
func (s *stream) take(text string) bool {
	found := s.is(text)
	if found {
		s.advance()
	}
	return found
}

// expect reads a keyword or a sign that has to be there.
func (s *stream) expect(text string) {
	if !s.take(text) {
		s.unexpected()
	}
}

// closeAngle reads a sign > or the first half of a sign >>.
func (s *stream) closeAngle() {
	if t := s.next(); t.Text == ">>" {
		s.tokens[s.index] = lex.Token{Kind: lex.Sign, Text: ">", At: t.At + 1}
		return
	}
	s.expect(">")
}

// name reads a name of a sort.
func (s *stream) name(fits func(lex.Token) bool) lex.Token {
	if !fits(s.next()) {
		s.unexpected()
	}
	return s.advance()
}

// plain returns a token without its offset.
func plain(t lex.Token) lex.Token {
	t.At = 0
	return t
}

// initial returns the letter that begins the last part of a name.
func initial(name string) rune {
	var letter rune
	start := true
	for _, c := range name {
		if start {
			letter = c
		}
		start = c == ':'
	}
	return letter
}

func isGlobalLower(t lex.Token) bool { return t.Kind == lex.Name && initial(t.Text) >= 'a' }

func isGlobalUpper(t lex.Token) bool { return t.Kind == lex.Name && initial(t.Text) <= 'Z' }

func isLocal(t lex.Token) bool { return t.Kind == lex.Name && !strings.Contains(t.Text, "::") }

func isLower(t lex.Token) bool { return isLocal(t) && isGlobalLower(t) }

func isUpper(t lex.Token) bool { return isLocal(t) && isGlobalUpper(t) }

// separated reads elements with commas between them.
func separated[T any](s *stream, read func() T) []T {
	elements := []T{read()}
	for s.take(",") {
		elements = append(elements, read())
	}
	return elements
}

// enclosed reads elements with commas between them, or none, between two signs.
func enclosed[T any](s *stream, opening, closing string, read func() T) []T {
	var elements []T
	s.expect(opening)
	if !s.is(closing) {
		elements = separated(s, read)
	}
	s.expect(closing)
	return elements
}

// until reads elements up to a closing sign, and the sign.
func until[T any](s *stream, closing string, read func() T) []T {
	var elements []T
	for t := range s.ahead() {
		if t.Text == closing {
			break
		}
		elements = append(elements, read())
	}
	s.expect(closing)
	return elements
}
