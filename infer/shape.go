package infer

import (
	"strings"

	"entail/api"
)

// maxLength is the greatest number of bytes of a type.
const maxLength = 400

// The heads of types that have words of their own.
const (
	boolWord  = "bool"
	intWord   = "int"
	realWord  = "real"
	bitsWord  = "bv"
	seqWord   = "seq"
	setWord   = "set"
	multiWord = "multiset"
	mapWord   = "map"
	arrayWord = "array"
)

// words are the heads of the types from TBool to TArray; a width is behind that of bit vectors.
var words = [...]string{boolWord, intWord, realWord, bitsWord, seqWord, setWord, multiWord, mapWord, arrayWord}

// shape is a type as far as it is known: a head with its arguments, or a variable, which has a number from 1 on.
type shape struct {
	head     string
	args     []*shape
	variable int
}

func made(head string, args ...*shape) *shape { return &shape{head: head, args: args} }

// shapeAt returns the type at a node of a syntax tree.
func shapeAt(t api.Tree, node int) *shape {
	n := t[node]
	s := made(n.Text)
	if n.Op != api.TName {
		s.head = words[n.Op] + n.Text
	}
	for _, kid := range n.Kids {
		s.args = append(s.args, shapeAt(t, kid))
	}
	return s
}

// read returns the type of a string that is one.
func read(text string) *shape {
	inside := []*shape{{}} // each one is an argument of the one before
	for _, c := range text {
		last := len(inside) - 1
		switch c {
		case '<':
			inside = append(inside, inside[last].addArgument())
		case ',':
			inside[last] = inside[last-1].addArgument()
		case '>':
			inside = inside[:last]
		default:
			inside[last].head += string(c)
		}
	}
	return inside[0]
}

// addArgument adds an argument that has to be read.
func (s *shape) addArgument() *shape {
	arg := &shape{}
	s.args = append(s.args, arg)
	return arg
}

// put returns a type in which names without arguments are replaced by types.
func (s *shape) put(values map[string]*shape) *shape {
	if len(s.args) == 0 {
		if value, found := values[s.head]; found {
			return value
		}
		return s
	}
	out := made(s.head)
	for _, arg := range s.args {
		out.args = append(out.args, arg.put(values))
	}
	return out
}

// write appends the string of a type, in which variables are looked up.
func (s *shape) write(text *strings.Builder, find func(*shape) *shape) {
	s = find(s)
	text.WriteString(s.head)
	for i, arg := range s.args {
		sign := byte(',')
		if i == 0 {
			sign = '<'
		}
		text.WriteByte(sign)
		arg.write(text, find)
	}
	if len(s.args) > 0 {
		text.WriteByte('>')
	}
}

// String returns the string of a type without variables.
func (s *shape) String() string {
	var text strings.Builder
	s.write(&text, func(s *shape) *shape { return s })
	return text.String()
}
