package value

import (
	"strings"

	"entail/api"
)

const (
	maxLevels = 2 * api.MaxDepth
	comma     = ", "
	assigned  = " := "
	bitsSign  = "bv"
	truth     = "true"
	falsehood = "false"
)

// brackets are the beginnings and ends of collections, by kinds; constructors have their names in front.
var brackets = [api.Kinds][2]string{
	api.VSeq: {"[", "]"}, api.VSet: {"{", "}"}, api.VMulti: {"multiset{", "}"}, api.VMap: {"map[", "]"}, api.VCons: {"(", ")"},
}

// textOf returns the string of a value.
func textOf(v api.Value) string {
	var text strings.Builder
	write(&text, v)
	return text.String()
}

func write(text *strings.Builder, v api.Value) {
	switch v.Kind {
	case api.VBool:
		text.WriteString(map[string]string{"0": falsehood, "1": truth}[v.Num])
	case api.VInt, api.VReal:
		text.WriteString(v.Num)
	case api.VBits:
		text.WriteString(v.Num + bitsSign + v.Text)
	case api.VRef:
		text.WriteString("#" + v.Num)
	default:
		writeItems(text, v)
	}
}

// writeItems appends the string of a collection or a constructor.
func writeItems(text *strings.Builder, v api.Value) {
	text.WriteString(v.Text)
	text.WriteString(brackets[v.Kind][0])
	for i, item := range v.Items {
		switch {
		case i%stepOf(v.Kind) != 0:
			text.WriteString(assigned)
		case i > 0:
			text.WriteString(comma)
		}
		write(text, item)
	}
	text.WriteString(brackets[v.Kind][1])
}

// reader reads a value from a text. Behind the first byte that does not fit it reads nothing.
type reader struct {
	text   string
	at     int
	failed bool
}

// run reads all characters that fulfil a condition.
func (r *reader) run(holds func(rune) bool) string {
	if r.failed {
		return ""
	}
	rest := r.text[r.at:]
	end := len(rest)
	for i, c := range rest {
		if !holds(c) {
			end = i
			break
		}
	}
	r.at += end
	return rest[:end]
}

// some reads one or more characters that fulfil a condition.
func (r *reader) some(holds func(rune) bool) string {
	found := r.run(holds)
	if found == "" {
		r.failed = true
	}
	return found
}

// is reports whether a text is next.
func (r *reader) is(text string) bool {
	return !r.failed && strings.HasPrefix(r.text[r.at:], text)
}

// expect reads a text, or the bytes of it that are there.
func (r *reader) expect(text string) {
	for i := range len(text) {
		if !r.is(text[i : i+1]) {
			r.failed = true
			return
		}
		r.at++
	}
}

// take reads a text, if it is there.
func (r *reader) take(text string) bool {
	found := r.is(text)
	if found {
		r.at += len(text)
	}
	return found
}

// value reads a value that is at a level.
func (r *reader) value(level int) api.Value {
	switch {
	case level > maxLevels:
		r.failed = true
		return api.Value{}
	case r.take("#"):
		return api.Value{Kind: api.VRef, Num: r.some(isDigit)}
	case r.is("["):
		return r.collection(api.VSeq, level)
	case r.is("{"):
		return r.collection(api.VSet, level)
	}
	if word := r.run(isLetter); word != "" {
		return r.named(word+r.run(isWordRune), level)
	}
	return r.number()
}

// number reads an integer, a fraction or a bit vector.
func (r *reader) number() api.Value {
	sign := ""
	if r.take("-") {
		sign = "-"
	}
	n := sign + r.some(isDigit)
	switch {
	case r.take("/"):
		return api.Value{Kind: api.VReal, Num: n + "/" + r.some(isDigit)}
	case sign == "" && r.is(bitsSign[:1]):
		r.expect(bitsSign)
		return api.Value{Kind: api.VBits, Num: n, Text: r.some(isDigit)}
	}
	return api.Value{Kind: api.VInt, Num: n}
}

// named reads what begins with a word: a truth value, a collection, or a constructor.
func (r *reader) named(word string, level int) api.Value {
	switch {
	case word == "multiset" && r.is("{"):
		return r.collection(api.VMulti, level)
	case word == "map" && r.is("["):
		return r.collection(api.VMap, level)
	case r.is(colons[:1]):
		r.expect(colons)
		word += colons + r.some(isWordRune)
	case r.is("("):
	case word == truth:
		return api.Value{Kind: api.VBool, Num: "1"}
	case word == falsehood:
		return api.Value{Kind: api.VBool, Num: "0"}
	}
	v := r.collection(api.VCons, level)
	v.Text = word
	return v
}

// collection reads elements from the opening bracket on.
func (r *reader) collection(kind, level int) api.Value {
	v := api.Value{Kind: kind}
	opening, closing := brackets[kind][0], brackets[kind][1]
	r.expect(opening[len(opening)-1:])
	for !r.failed && !r.take(closing) {
		if len(v.Items) > 0 {
			r.expect(comma)
		}
		v.Items = append(v.Items, r.value(level+1))
		if kind == api.VMap {
			r.expect(assigned)
			v.Items = append(v.Items, r.value(level+1))
		}
	}
	return v
}
