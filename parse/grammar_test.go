package parse

import (
	"maps"
	"math/rand"
	"slices"
	"strings"
	"testing"

	"entail/api"
	"entail/lex"
	"entail/tree"
)

// grammar is that of the document with its notes: what a brace begins, which chains there are, what a target is. Close
// is a sign > or a half of a sign >> behind a type, and Shift the sign >> between operands. NoBrace, NoModule and WithIn
// are nothing; they stand where no left brace and no module follows, and where the second token that follows is in.
const grammar = `
Program = Module { Module } | NoModule { Import } [ Export ] { Decl }
Module = 'module' Upper [ 'refines' Upper ] '{' { Import } [ Export ] { Decl } '}'
Import = 'import' Upper ';'
Export = 'export' [ ExName { ',' ExName } ] ';'
ExName = [ '+' ] Name
Decl = 'datatype' GUpper TParams '=' Cons { '|' Cons }
 | 'type' GUpper '=' Lower ':' Type '|' Expr 'witness' Expr
 | 'class' GUpper '{' { [ 'ghost' ] 'var' Lower ':' Type ';' } '}'
 | 'const' GLower ':' Type ':=' Expr ';'
 | { Mark } 'function' GLower TParams '(' [ Params ] ')' ':' Type { Clause } [ '{' Expr '}' ]
 | { Mark } 'method' GLower TParams '(' [ Params ] ')' [ 'returns' '(' Fields ')' ] { Clause } [ Block ]
Mark = 'ghost' | 'opaque' | 'hidden' | 'least' | 'greatest' | 'lemma' | 'fuel' Digit
TParams = [ '<' Upper { ',' Upper } '>' ]
Cons = GUpper [ '(' [ Fields ] ')' ]
Fields = Lower ':' Type { ',' Lower ':' Type }
Params = [ 'ghost' ] Lower ':' Type { ',' [ 'ghost' ] Lower ':' Type }
Clause = 'requires' Expr | 'ensures' Expr | 'reads' Expr | 'modifies' Expr | 'decreases' Exprs
Type = 'bool' | 'int' | 'real' | Width | ( 'seq' | 'set' | 'multiset' | 'array' ) '<' Type Close | 'map' '<' Type ',' Type Close | Named
Named = GUpper [ '<' Type { ',' Type } Close ]
Block = '{' { Stmt } '}'
Stmt = Block
 | [ 'ghost' ] 'var' Lower ':' Type [ ':=' Expr ] ';'
 | Lower ':|' Expr ';'
 | Target ':=' '*' ';'
 | Lower ':=' 'new' ( 'array' '<' Type Close '(' Expr ',' Expr ')' | Named '(' [ Exprs ] ')' ) ';'
 | [ Lower { ',' Lower } ':=' ] 'call' GLower '(' [ Exprs ] ')' ';'
 | Target ':=' Expr ';'
 | 'if' '{' 'case' Expr '=>' Block { 'case' Expr '=>' Block } '}'
 | IfStmt
 | 'while' Expr { 'invariant' Expr | 'decreases' Exprs | 'modifies' Expr } Block
 | 'match' Expr '{' 'case' Pattern '=>' Block { 'case' Pattern '=>' Block } '}'
 | 'assert' [ Lower ':' ] Expr ( ';' | 'by' Block )
 | 'assume' Expr ';' | 'print' Expr ';' | 'return' ';' | 'reveal' GLower ';'
 | 'calc' '{' Expr ';' { Rel ( Block Expr | NoBrace Expr ) ';' } '}'
 | 'forall' Fields '|' Expr 'ensures' Expr Block
Rel = '==' | '==>' | '<=' | '<'
IfStmt = 'if' NoBrace Expr Block [ 'else' ( Block | IfStmt ) ]
Target = Lower | NoBrace Part
Part = Primary { Suffix } ( '.' Lower | '[' Expr ']' ) | '(' Part ')'
Exprs = Expr { ',' Expr }
Expr = 'if' Expr 'then' Expr 'else' Expr
 | 'var' Lower ':=' Expr ';' Expr
 | ( 'forall' | 'exists' ) Fields { '{' Exprs '}' } '::' Expr
 | 'set' Lower ':' Type '|' Expr '::' Expr
 | 'match' Expr '{' 'case' Pattern '=>' Expr { 'case' Pattern '=>' Expr } '}'
 | Level0
Level0 = Level1 { '<==>' Level1 }
Level1 = Level2 [ '==>' Level1 ]
Level2 = Level3 { '||' Level3 }
Level3 = Level4 { '&&' Level4 }
Level4 = Level5 [ ( '!=' | 'in' | WithIn '!' 'in' ) Level5 ] | Level5 ( '==' | '<' | '<=' | '>' | '>=' ) Level5 { ( '==' | '<' | '<=' | '>' | '>=' ) Level5 }
Level5 = Level6 { ( '&' | '|' | '^' ) Level6 }
Level6 = Level7 { ( '<<' | Shift ) Level7 }
Level7 = Level8 { ( '+' | '-' ) Level8 }
Level8 = Unary { ( '*' | '/' | '%' ) Unary }
Unary = ( '!' | '-' | '#' ) Unary | Postfix
Postfix = Primary { Suffix }
Suffix = '.' Lower | '.' GUpper '?' | '[' Expr ']' | '[' Expr '..' Expr ']' | '[' Expr ':=' Expr ']'
Primary = Number | Decimal | 'true' | 'false' | GLower [ '(' [ Exprs ] ')' ] | GUpper [ '(' [ Exprs ] ')' ]
 | '(' Expr ')' | '(' Expr 'as' Type ')' | '[' [ Exprs ] ']' | '{' [ Exprs ] '}'
 | 'multiset' '{' [ Exprs ] '}' | 'map' '[' [ Expr ':=' Expr { ',' Expr ':=' Expr } ] ']' | ( 'old' | 'fresh' ) '(' Expr ')'
Pattern = Lower | '_' | GUpper [ '(' [ Pattern { ',' Pattern } ] ')' ] | [ '-' ] Number | 'true' | 'false'
`

// rules are the productions of a grammar: each one is a list of symbols.
type rules struct {
	productions map[string][][]string
	words       []string
}

// readRules reads a grammar; groups get names of their own.
func readRules(text string) *rules {
	r := &rules{productions: map[string][][]string{}}
	for _, line := range strings.Split(strings.ReplaceAll(strings.TrimSpace(text), "\n ", " "), "\n") {
		words := strings.Fields(line)
		r.words = words[2:]
		r.productions[words[0]] = r.alternatives(words[0])
	}
	return r
}

// alternatives reads up to a closing bracket.
func (r *rules) alternatives(name string) [][]string {
	out := [][]string{nil}
	add := func(symbol string) { out[len(out)-1] = append(out[len(out)-1], symbol) }
	for len(r.words) > 0 {
		word := r.words[0]
		r.words = r.words[1:]
		group := name + "." + string(rune('0'+len(r.productions)%10)) + strings.Repeat("'", len(r.productions)/10)
		switch word {
		case ")", "]", "}":
			return out
		case "|":
			out = append(out, nil)
		case "(", "[", "{":
			r.productions[group] = nil
			inner := r.alternatives(group)
			if word == "{" {
				for i := range inner {
					inner[i] = append(inner[i], group)
				}
			}
			if word != "(" {
				inner = append(inner, nil)
			}
			r.productions[group] = inner
			add(group)
		default:
			add(word)
		}
	}
	return out
}

// half is one of the halves of a sign >>.
const half = lex.Sign + 1

// terminals returns the tokens with signs >> cut in two.
func terminals(tokens []lex.Token) []lex.Token {
	var out []lex.Token
	for _, t := range tokens {
		if t.Text == ">>" {
			out = append(out, lex.Token{Kind: half, Text: "1", At: t.At}, lex.Token{Kind: half, Text: "2", At: t.At + 1})
			continue
		}
		out = append(out, t)
	}
	return out
}

// matches reports whether a token is a terminal symbol.
func matches(symbol string, t lex.Token) bool {
	name := t.Kind == lex.Name
	module, last, global := strings.Cut(t.Text, "::")
	if !global {
		last = module
	}
	lower := name && last[0] >= 'a'
	switch symbol {
	case "Name":
		return name && !global
	case "Lower":
		return lower && !global
	case "Upper":
		return name && !lower && !global
	case "GLower":
		return lower
	case "GUpper":
		return name && !lower
	case "Number":
		return t.Kind == lex.Number
	case "Digit":
		return t.Kind == lex.Number && len(t.Text) == 1
	case "Decimal":
		return t.Kind == lex.Decimal
	case "Width":
		return t.Kind == lex.Keyword && strings.HasPrefix(t.Text, "bv")
	case "Close":
		return t.Text == ">" || t.Kind == half
	case "Half1", "Half2":
		return t.Kind == half && t.Text == symbol[4:]
	}
	return symbol == "'"+t.Text+"'" && (t.Kind == lex.Keyword || t.Kind == lex.Sign)
}

// state is how far a production has been read, from some token on.
type state struct {
	name        string
	choice, dot int
	origin      int
}

// chart finds the first token that cannot continue a text of the grammar.
type chart struct {
	*rules
	tokens []lex.Token
	sets   [][]state
	seen   []map[state]bool
}

func (c *chart) add(at int, s state) {
	if !c.seen[at][s] {
		c.seen[at][s] = true
		c.sets[at] = append(c.sets[at], s)
	}
}

// permits reports whether a condition on the next token holds; other symbols are none.
func (c *chart) permits(symbol string, at int) (bool, bool) {
	is := func(at int, text string) bool { return at < len(c.tokens) && c.tokens[at].Text == text }
	switch symbol {
	case "NoBrace":
		return !is(at, "{"), true
	case "NoModule":
		return !is(at, "module"), true
	case "WithIn":
		return is(at+1, "in"), true
	}
	return true, false
}

// process adds what follows from a state.
func (c *chart) process(at int, s state) {
	body := c.productions[s.name][s.choice]
	if s.dot == len(body) {
		for i := 0; i < len(c.sets[s.origin]); i++ {
			o := c.sets[s.origin][i]
			if list := c.productions[o.name][o.choice]; o.dot < len(list) && list[o.dot] == s.name {
				c.add(at, state{o.name, o.choice, o.dot + 1, o.origin})
			}
		}
		return
	}
	next, after := body[s.dot], state{s.name, s.choice, s.dot + 1, s.origin}
	if permitted, condition := c.permits(next, at); condition {
		if permitted {
			c.add(at, after)
		}
		return
	}
	if choices, found := c.productions[next]; found {
		for i := range choices {
			c.add(at, state{next, i, 0, at})
		}
		// What has been completed here already, as it is empty, is not completed again.
		for i := 0; i < len(c.sets[at]); i++ {
			if o := c.sets[at][i]; o.name == next && o.origin == at && o.dot == len(c.productions[next][o.choice]) {
				c.add(at, after)
			}
		}
		return
	}
	if at < len(c.tokens) && matches(next, c.tokens[at]) {
		c.add(at+1, after)
	}
}

// stop returns the index of the first token that fits nowhere, or of the end, and whether the text is complete.
func (r *rules) stop(start string, tokens []lex.Token) (int, bool) {
	c := &chart{rules: r, tokens: tokens, sets: make([][]state, len(tokens)+1)}
	for range c.sets {
		c.seen = append(c.seen, map[state]bool{})
	}
	c.add(0, state{"", 0, 0, 0})
	r.productions[""] = [][]string{{start}}
	for at := range c.sets {
		for i := 0; i < len(c.sets[at]); i++ {
			c.process(at, c.sets[at][i])
		}
		if at < len(tokens) && len(c.sets[at+1]) == 0 {
			return at, false
		}
	}
	return len(tokens), c.seen[len(tokens)][state{"", 0, 1, 0}]
}

// writer writes random texts of the grammar.
type writer struct {
	*rules
	*rand.Rand
	heights map[string]int
}

// heightOf returns how deep the derivations of a list of symbols are at least, as far as it is known.
func (w *writer) heightOf(symbols []string) int {
	height := 0
	for _, s := range symbols {
		if _, found := w.productions[s]; found {
			h, known := w.heights[s]
			if !known {
				return 1000
			}
			height = max(height, h)
		}
	}
	return height + 1
}

func newWriter(r *rules, seed int64) *writer {
	w := &writer{r, rand.New(rand.NewSource(seed)), map[string]int{}}
	for range len(r.productions) {
		for _, name := range slices.Sorted(maps.Keys(r.productions)) {
			for _, body := range r.productions[name] {
				if h := w.heightOf(body); h < 1000 && (w.heights[name] == 0 || h < w.heights[name]) {
					w.heights[name] = h
				}
			}
		}
	}
	return w
}

// write returns the words of a text of a symbol.
func (w *writer) write(symbol string, depth int) []string {
	pick := func(l ...string) []string { return []string{l[w.Intn(len(l))]} }
	switch symbol {
	case "Lower":
		return pick("x", "y", "s", "f")
	case "Upper":
		return pick("A", "B", "T")
	case "GLower":
		return pick("x", "f", "M::f")
	case "GUpper":
		return pick("A", "C", "M::C")
	case "Name":
		return pick("x", "A")
	case "Number":
		return pick("0", "7", "42")
	case "Digit":
		return pick("3")
	case "Decimal":
		return pick("0.0", "1.5")
	case "Width":
		return pick("bv1", "bv64")
	case "Close":
		return []string{">"}
	case "NoBrace", "NoModule", "WithIn":
		return nil
	case "Shift":
		return []string{">>"}
	}
	choices, found := w.productions[symbol]
	if !found {
		return []string{strings.Trim(symbol, "'")}
	}
	least := slices.MinFunc(choices, func(a, b []string) int { return w.heightOf(a) - w.heightOf(b) })
	fitting := slices.DeleteFunc(slices.Clone(choices), func(body []string) bool { return w.heightOf(body) > depth })
	body := least
	if len(fitting) > 0 {
		body = fitting[w.Intn(len(fitting))]
	}
	var out []string
	for _, s := range body {
		out = append(out, w.write(s, depth-1)...)
	}
	return out
}

// starts are the rules with the functions that read them.
var starts = map[string]func(string) (api.Tree, int, api.Errno){
	"Program": Program, "Decl": Declaration, "Stmt": Statement, "Expr": Expression, "Pattern": Pattern, "Type": Type,
}

func documentRules() *rules {
	r := readRules(grammar)
	r.productions["Shift"] = [][]string{{"Half1", "Half2"}}
	return r
}

// compareWithGrammar compares the result for a text with the grammar.
func compareWithGrammar(t *testing.T, r *rules, start, text string) {
	tokens, _, e := lex.Tokens(text)
	if e != api.OK {
		return
	}
	list := terminals(tokens)
	index, complete := r.stop(start, list)
	want := len(text)
	if index < len(list) {
		want = list[index].At
	}
	p, at, e := starts[start](text)
	switch {
	case complete && index == len(list) && (e == api.ErrSyntax || e == api.OK && len(p) == 0):
		t.Fatalf("%s %.400q: %d, %d, but it is in the grammar", start, text, at, e)
	case !complete && e == api.ErrTwice && at <= want:
	case !complete && (e != api.ErrSyntax || at != want || p != nil):
		t.Fatalf("%s %.400q: %d, %d, want ErrSyntax at %d", start, text, at, e, want)
	}
}

func TestGrammar(t *testing.T) { // P4.1, P4.2, P4.3
	r := documentRules()
	w := newWriter(r, 1)
	for _, start := range slices.Sorted(maps.Keys(starts)) {
		for i := range 400 {
			words := w.write(start, 8+i%12)
			if len(words) > 120 {
				continue
			}
			text := strings.Join(words, " ")
			if i%2 == 0 {
				text = strings.ReplaceAll(text, "> >", ">>")
			}
			compareWithGrammar(t, r, start, text)
			for range 3 {
				compareWithGrammar(t, r, start, strings.Join(w.changed(words), " "))
			}
			compareWithGrammar(t, r, start, strings.Join(words[:w.Intn(len(words)+1)], " "))
		}
	}
}

// changed returns words of which one is missing, another one, twice there, or behind a new one.
func (w *writer) changed(words []string) []string {
	out := slices.Clone(words)
	if len(out) == 0 {
		return out
	}
	at := w.Intn(len(out))
	all := strings.Fields(lex.Signs()[0] + " " + strings.Join(lex.Signs(), " ") + " " + strings.Join(lex.Keywords(), " ") + " x f M::f A M::C 1 42 1.5 bv8 _ ! in { } ( ) := ; :")
	other := all[w.Intn(len(all))]
	switch w.Intn(4) {
	case 0:
		return slices.Delete(out, at, at+1)
	case 1:
		out[at] = other
	case 2:
		return slices.Insert(out, at, out[w.Intn(len(out))])
	case 3:
		return slices.Insert(out, at, other)
	}
	return out
}

// TestPrintedTexts reads random texts of the grammar, prints them, and reads them again.
func TestPrintedTexts(t *testing.T) { // P4.4
	r := documentRules()
	w := newWriter(r, 2)
	read := 0
	for _, start := range slices.Sorted(maps.Keys(starts)) {
		parse := starts[start]
		for i := range 800 {
			words := w.write(start, 8+i%13)
			text := strings.Join(words, " ")
			p, at, e := parse(text)
			if e != api.OK {
				// What is written where NoBrace stands may begin with a brace.
				if p != nil || e == api.ErrSyntax && !strings.Contains(text, "{") {
					t.Fatalf("%s %.400q: %d, %d", start, text, at, e)
				}
				continue
			}
			read++
			printed, e := tree.Print(p)
			again, at, f := parse(printed)
			if e != api.OK || f == api.ErrDeep {
				continue
			}
			if f != api.OK || at != 0 || !tree.Same(p, again) {
				t.Fatalf("%s %.400q, printed %.400q: %d, %d", start, text, printed, at, f)
			}
			if len(words) > 1000 {
				continue
			}
			spaced, _, f := parse("/* a */" + strings.Join(words, " // b\n\t/**/ ") + "\r\n")
			if f != api.OK || !tree.Same(p, spaced) {
				t.Fatalf("%s %.400q with comments: %d", start, text, f)
			}
		}
	}
	if read < 3000 {
		t.Errorf("%d texts were read", read)
	}
}
