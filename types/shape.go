package types

import (
	"slices"
	"strings"

	"entail/api"
	"entail/lex"
	"entail/list"
)

// maxLength is the greatest number of bytes of a type.
const maxLength = 400

const bitsWord = "bv"

// shape is a type that is taken apart.
type shape struct {
	head string
	args []shape
}

// builtin is a type with a word of its own. Bit vectors have their width behind the word. The default expression is
// missing where there is no value.
type builtin struct {
	word          string
	op, arguments int
	standard      func(width string) api.Tree
}

// builtins returns the built-in types from TBool to TArray.
func builtins() []builtin {
	return []builtin{
		{"bool", api.TBool, 0, literal(api.EBool, "false")}, {"int", api.TInt, 0, literal(api.EInt, "0")},
		{"real", api.TReal, 0, literal(api.EReal, "0.0")}, {bitsWord, api.TBits, 0, zeroBits},
		{"seq", api.TSeq, 1, literal(api.ESeq, "")}, {"set", api.TSet, 1, literal(api.ESet, "")},
		{"multiset", api.TMulti, 1, literal(api.EMulti, "")}, {"map", api.TMap, 2, literal(api.EMap, "")},
		{"array", api.TArray, 1, nil},
	}
}

// literal returns a function that makes a tree with one node.
func literal(op int, text string) func(string) api.Tree {
	return func(string) api.Tree { return joined(op, text) }
}

// zeroBits is the number zero as a bit vector.
func zeroBits(width string) api.Tree {
	return joined(api.EAs, "", joined(api.EInt, "0"), joined(api.TBits, width))
}

// joined makes a tree with a new root above subtrees; it has no limits.
func joined(op int, text string, kids ...api.Tree) api.Tree {
	var out api.Tree
	root := api.Node{Op: op, Text: text}
	for _, kid := range kids {
		offset := len(out)
		for _, n := range kid {
			moved := api.Node{Op: n.Op, Text: n.Text}
			for _, k := range n.Kids {
				moved.Kids = append(moved.Kids, k+offset)
			}
			out = append(out, moved)
		}
		root.Kids = append(root.Kids, len(out)-1)
	}
	return append(out, root)
}

// isBits reports whether a word is a type of bit vectors.
func isBits(word string) bool {
	if !strings.HasPrefix(word, bitsWord) {
		return false
	}
	tokens, _, e := lex.Tokens(word)
	return e == api.OK && len(tokens) == 1 && tokens[0] == lex.Token{Kind: lex.Keyword, Text: word}
}

// builtinOf returns the built-in type that has a head, and its width.
func builtinOf(head string) (builtin, string, bool) {
	word, width := head, ""
	if isBits(head) {
		word, width = bitsWord, head[len(bitsWord):]
	}
	for _, b := range builtins() {
		if b.word == word && (width != "" || word != bitsWord) {
			return b, width, true
		}
	}
	return builtin{}, "", false
}

// isUpper reports whether a string is a global upper name.
func isUpper(s string) bool {
	if !lex.IsGlobal(s) {
		return false
	}
	last := s[strings.LastIndexByte(s, ':')+1:]
	return last[0] <= 'Z'
}

// isVariable reports whether a string can be the name of a type variable.
func isVariable(s string) bool { return isUpper(s) && lex.IsName(s) }

// reader reads a type string.
type reader struct {
	text string
	at   int
}

// word reads up to the next sign.
func (r *reader) word() string {
	rest := r.text[r.at:]
	end := len(rest)
	for i, c := range rest {
		if c == '<' || c == ',' || c == '>' {
			end = i
			break
		}
	}
	r.at += end
	return rest[:end]
}

// take reads a sign, if it is there.
func (r *reader) take(sign byte) bool {
	found := r.at < len(r.text) && r.text[r.at] == sign
	if found {
		r.at++
	}
	return found
}

// shape reads a type that is nested so deep at most.
func (r *reader) shape(depth int) (shape, bool) {
	if depth == 0 {
		return shape{}, false
	}
	s := shape{head: r.word()}
	if r.take('<') {
		for len(s.args) == 0 || r.take(',') {
			arg, found := r.shape(depth - 1)
			if !found {
				return shape{}, false
			}
			s.args = append(s.args, arg)
		}
		if !r.take('>') {
			return shape{}, false
		}
	}
	return s, s.isFormed()
}

// isFormed reports whether a type has a head, and as many arguments as a built-in one needs.
func (s shape) isFormed() bool {
	if b, _, found := builtinOf(s.head); found {
		return len(s.args) == b.arguments
	}
	return isUpper(s.head)
}

// shapeOf reads a type string.
func shapeOf(s string) (shape, api.Errno) {
	if len(s) > maxLength {
		return shape{}, api.ErrLong
	}
	r := reader{text: s}
	out, found := r.shape(api.MaxDepth)
	if !found || r.at < len(s) {
		return shape{}, api.ErrSyntax
	}
	return out, api.OK
}

// shapeAt returns the type at a node of a syntax tree.
func shapeAt(t api.Tree, node int) shape {
	n := t[node]
	out := shape{head: n.Text}
	if n.Op != api.TName {
		out.head = builtins()[n.Op-api.TBool].word + n.Text
	}
	for _, kid := range n.Kids {
		out.args = append(out.args, shapeAt(t, kid))
	}
	return out
}

// tree returns the tree of a type.
func (s shape) tree() api.Tree {
	var kids []api.Tree
	for _, arg := range s.args {
		kids = append(kids, arg.tree())
	}
	if b, width, found := builtinOf(s.head); found {
		return joined(b.op, width, kids...)
	}
	return joined(api.TName, s.head, kids...)
}

// String returns the string of a type.
func (s shape) String() string {
	var text strings.Builder
	s.write(&text)
	return text.String()
}

func (s shape) write(text *strings.Builder) {
	text.WriteString(s.head)
	for i, arg := range s.args {
		sign := byte(',')
		if i == 0 {
			sign = '<'
		}
		text.WriteByte(sign)
		arg.write(text)
	}
	if len(s.args) > 0 {
		text.WriteByte('>')
	}
}

// depth returns how deep a type is nested; a type without arguments has the depth 1.
func (s shape) depth() int {
	deepest := 0
	for _, arg := range s.args {
		deepest = max(deepest, arg.depth())
	}
	return deepest + 1
}

// fits returns ErrLong for a type that is too long or nested too deep.
func (s shape) fits() api.Errno {
	if len(s.String()) > maxLength || s.depth() > api.MaxDepth {
		return api.ErrLong
	}
	return api.OK
}

// result returns the string of a type that is made, or ErrLong.
func (s shape) result() (string, api.Errno) {
	if e := s.fits(); e != api.OK {
		return "", e
	}
	return s.String(), api.OK
}

// put returns a type in which variables are replaced, all at once.
func (s shape) put(values map[string]shape) shape {
	if value, found := values[s.head]; found && len(s.args) == 0 {
		return value
	}
	return shape{s.head, list.Transform(s.args, func(arg shape) shape { return arg.put(values) })}
}

// is reports whether a type is a name without arguments.
func (s shape) is(name string) bool { return s.head == name && len(s.args) == 0 }

// contains reports whether a variable is in a type.
func (s shape) contains(name string) bool {
	return s.is(name) || slices.ContainsFunc(s.args, func(arg shape) bool { return arg.contains(name) })
}
