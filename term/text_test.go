package term

import (
	"math/rand"
	"strings"
	"testing"

	"entail/api"
)

func TestTexts(t *testing.T) { // P9.5
	for _, s := range []string{
		"true", "false", "0", "-5", "3/4", "-3/4", "?x", "c", "(f c)", "(cons (f ?x) nil)", "(is$cons (tail (cons c nil)))", "(and)", "(or)", "(and true)", "(not ?u)", "(=> ?u ?v)", "(iff (p ?x) true)", "(ite (= c ?x) 1 n)", "(= nil ?l)",
		"(+ n 1)", "(- 1/2 ?w)", "(* n n)", "(< n 1)", "(<= 1/2 r)", "(div$Int 7 (mod$Int n 2))", "(real$Int (floor$Real r))", "(store$Map<Int,E> ?m 1 c)", "empty$Set<Int>", "(join$Set<Int> (g 1 nil) empty$Set<Int>)",
		"(forall ((z E) (k Int)) (! (f ?z)) (= (f ?z) c))", "(exists ((z Seq<Int>)) (<= 0 (len$Seq<Int> ?z)))", "(forall ((x E)) (! (f ?x) ?x) (! (p ?x)) (exists ((x Bool)) ?x))", "(forall ((forall E) (? E) (?? Bool) (=> E)) (and (q ?forall ??) ??? (p ?=>)))",
		"(and" + strings.Repeat(" true", 1999) + ")", strings.Repeat("(not ", 59) + "?u" + strings.Repeat(")", 59),
	} {
		x, at, e := Parse(sig(), given, s)
		if e != api.OK || at != 0 {
			t.Errorf("Parse(%.60q): %d at %d", s, e, at)
			continue
		}
		if got, e := Print(x); got != s || e != api.OK {
			t.Errorf("%.60q is printed as %.60q, %d", s, got, e)
		}
		if _, e := Check(sig(), given, x); e != api.OK {
			t.Errorf("Check(%.60q): %d", s, e)
		}
		spaced := " \n" + strings.NewReplacer("(", " ( ", ")", "\n)\n\n", " ", "  \n").Replace(s) + " "
		if y, at, e := Parse(sig(), given, spaced); !Same(x, y) || at != 0 || e != api.OK {
			t.Errorf("Parse(%.60q): %d at %d", spaced, e, at)
		}
	}
}

func TestPrint(t *testing.T) { // P9.5
	long := strings.Repeat("x", 200)
	x := api.Term{Op: api.LVar, Sort: "E", Name: long}
	terms := func(n int) api.Terms {
		var l api.Terms
		root := api.Term{Op: api.LAnd, Sort: "Bool"}
		for i := range n {
			l = append(l, x)
			root.Kids = append(root.Kids, i)
		}
		return append(l, root)
	}
	// (and and a parenthesis are 5 bytes, each variable 202.
	if s, e := Print(terms(324)); len(s) != 5+324*202 || e != api.OK {
		t.Errorf("%d bytes: %d", len(s), e)
	}
	fit := terms(325)
	fit[0].Name = fit[0].Name[:200-(5+325*202-65536)]
	if s, e := Print(fit); len(s) != 65536 || e != api.OK {
		t.Errorf("%d bytes: %d", len(s), e)
	}
	fit[0].Name += "x"
	if s, e := Print(fit); s != "" || e != api.ErrLong {
		t.Errorf("%d bytes: %d", len(s), e)
	}
	if s, e := Print(terms(1999)); s != "" || e != api.ErrLong {
		t.Errorf("%d bytes: %d", len(s), e)
	}
	if s, e := Print(nil); s != "" || e != api.ErrEmpty {
		t.Errorf("Print of nothing: %q, %d", s, e)
	}
}

func TestParse(t *testing.T) { // P9.5
	wide := "(and" + strings.Repeat(" true", 2000) + ")"
	deep := strings.Repeat("(not ", 60) + "true" + strings.Repeat(")", 60)
	for _, c := range []struct {
		s  string
		at int
		e  api.Errno
	}{
		// Texts that end too early, or too late.
		{"", 0, api.ErrSyntax}, {"  \n ", 4, api.ErrSyntax}, {"(", 1, api.ErrSyntax}, {"(f", 2, api.ErrSyntax}, {"(f c", 4, api.ErrSyntax}, {"(f c ", 5, api.ErrSyntax}, {"(f c) c", 6, api.ErrSyntax}, {"c)", 1, api.ErrSyntax}, {")", 0, api.ErrSyntax}, {"c c", 2, api.ErrSyntax}, {"(f c))", 5, api.ErrSyntax}, {"(f c)(", 5, api.ErrSyntax}, {"true false", 5, api.ErrSyntax},
		{"()", 1, api.ErrSyntax}, {"((f c))", 1, api.ErrSyntax}, {"(f)", 2, api.ErrSyntax}, {"(c)", 2, api.ErrSyntax}, {"( f )", 4, api.ErrSyntax}, {"(nope)", 1, api.ErrUnknown},
		// Words that begin no term.
		{"not", 0, api.ErrSyntax}, {"and", 0, api.ErrSyntax}, {"=>", 0, api.ErrSyntax}, {"=", 0, api.ErrSyntax}, {"+", 0, api.ErrSyntax}, {"-", 0, api.ErrSyntax}, {"-x", 0, api.ErrSyntax}, {"!", 0, api.ErrSyntax}, {"?", 0, api.ErrSyntax}, {"(! c)", 1, api.ErrSyntax}, {"forall", 0, api.ErrSyntax}, {"(f forall)", 3, api.ErrSyntax}, {"{", 0, api.ErrSyntax}, {"a{", 0, api.ErrSyntax}, {"?a}", 0, api.ErrSyntax}, {strings.Repeat("x", 201), 0, api.ErrSyntax}, {"?" + strings.Repeat("x", 201), 0, api.ErrSyntax}, {strings.Repeat("x", 200), 0, api.ErrUnknown}, {"?" + strings.Repeat("x", 200), 0, api.ErrUnknown},
		{"(true c)", 1, api.ErrSyntax}, {"(?x c)", 1, api.ErrSyntax}, {"(3 c)", 1, api.ErrSyntax}, {"(-3 c)", 1, api.ErrSyntax}, {"(=! c)", 1, api.ErrSyntax}, {"(a{ c)", 1, api.ErrSyntax},
		// Numerals.
		{"01", 0, api.ErrSyntax}, {"-0", 0, api.ErrSyntax}, {"2/4", 0, api.ErrSyntax}, {"1/", 0, api.ErrSyntax}, {"1/2/3", 0, api.ErrSyntax}, {"1/-2", 0, api.ErrSyntax}, {"1x", 0, api.ErrSyntax}, {"-1x", 0, api.ErrSyntax}, {"--1", 0, api.ErrSyntax}, {strings.Repeat("1", 121), 0, api.ErrSyntax}, {strings.Repeat("1", 120), 0, api.OK}, {"(f 1x)", 3, api.ErrSyntax}, {"1.5", 0, api.ErrSyntax},
		// Names that are unknown.
		{"nope", 0, api.ErrUnknown}, {"?nope", 0, api.ErrUnknown}, {"(nope c)", 1, api.ErrUnknown}, {"(f nope)", 3, api.ErrUnknown}, {"(f ?nope c)", 3, api.ErrUnknown}, {"len$Seq<F>", 0, api.ErrUnknown}, {"(p ?y c)", 0, api.ErrArgs}, {"(nope ?nope)", 1, api.ErrUnknown}, {"(forall ((a E)) (p ?b))", 19, api.ErrUnknown}, {"(and (forall ((a E)) (p ?a)) (p ?a))", 32, api.ErrUnknown}, {"a\tb", 0, api.ErrUnknown},
		// Numbers of arguments.
		{"f", 0, api.ErrArgs}, {"  cons", 2, api.ErrArgs}, {"(f f)", 3, api.ErrArgs}, {"(f c c)", 0, api.ErrArgs}, {"(c c)", 0, api.ErrArgs}, {"(cons c)", 0, api.ErrArgs}, {"(f (f c c))", 3, api.ErrArgs}, {"(cons 1)", 0, api.ErrArgs}, {"(cons c", 7, api.ErrSyntax}, {"(f c c", 6, api.ErrSyntax},
		{"(not)", 4, api.ErrSyntax}, {"(not true true)", 10, api.ErrSyntax}, {"(=> true)", 8, api.ErrSyntax}, {"(=> true true (", 14, api.ErrSyntax}, {"(ite true c)", 11, api.ErrSyntax}, {"(= c)", 4, api.ErrSyntax}, {"(+ 1 2 3)", 7, api.ErrSyntax}, {"(< 1)", 4, api.ErrSyntax}, {"(= c nope2)", 5, api.ErrUnknown},
		// Sorts.
		{"(f nil)", 0, api.ErrSort}, {"(not c)", 0, api.ErrSort}, {"(and true c)", 0, api.ErrSort}, {"(=> true 1)", 0, api.ErrSort}, {"(iff c c)", 0, api.ErrSort}, {"(ite c 1 2)", 0, api.ErrSort}, {"(ite true 1 1/2)", 0, api.ErrSort}, {"(= c 1)", 0, api.ErrSort}, {"(+ 1 1/2)", 0, api.ErrSort}, {"(+ c c)", 0, api.ErrSort}, {"(- true true)", 0, api.ErrSort}, {"(< c c)", 0, api.ErrSort}, {"(<= 1 1/2)", 0, api.ErrSort}, {"(f (f 1))", 3, api.ErrSort}, {"(p (not c))", 3, api.ErrSort}, {"(and (f 1)", 5, api.ErrSort}, {"(not c", 6, api.ErrSyntax}, {"(g 1 c)", 0, api.ErrSort}, {" (f 1) c", 1, api.ErrSort},
		// Quantifiers.
		{"(forall", 7, api.ErrSyntax}, {"(forall)", 7, api.ErrSyntax}, {"(forall x true)", 8, api.ErrSyntax}, {"(forall () true)", 9, api.ErrSyntax}, {"(forall (x E) true)", 9, api.ErrSyntax}, {"(forall (()) true)", 10, api.ErrSyntax}, {"(forall ((x)) true)", 11, api.ErrSyntax}, {"(forall ((x E E)) true)", 14, api.ErrSyntax}, {"(forall ((x E) y) true)", 15, api.ErrSyntax}, {"(forall ((x E)", 14, api.ErrSyntax}, {"(forall ((x E))", 15, api.ErrSyntax}, {"(forall ((x E)))", 15, api.ErrSyntax}, {"(forall ((x E)) true true)", 21, api.ErrSyntax}, {"(forall ((x E)) true", 20, api.ErrSyntax}, {"(forall (((x E)) true)", 10, api.ErrSyntax},
		{"(forall ((a{ E)) true)", 10, api.ErrSyntax}, {"(forall ((x {)) true)", 12, api.ErrSort}, {"(forall ((x F)) true)", 12, api.ErrSort}, {"(forall ((x E) (y Seq<F>) true", 18, api.ErrSort}, {"(forall ((x F", 12, api.ErrSort}, {"(forall ((x F) (y", 12, api.ErrSort}, {"(exists ((x (E))) true)", 12, api.ErrSyntax}, {"(forall ((" + strings.Repeat("x", 201) + " E)) true)", 10, api.ErrSyntax},
		{"(forall ((x E)) c)", 0, api.ErrSort}, {"(not (exists ((x E)) ?x))", 5, api.ErrSort}, {"(forall ((x Bool)) ?x)", 0, api.OK}, {"(forall ((u E)) ?u)", 0, api.ErrSort},
		{"(forall ((x E)) (!) true)", 18, api.ErrSyntax}, {"(forall ((x E)) (! ?x))", 22, api.ErrSyntax}, {"(forall ((x E)) (! ?x) )", 23, api.ErrSyntax}, {"(forall ((x E)) (! ?x true)", 27, api.ErrSyntax}, {"(forall ((x E)) true (! ?x))", 21, api.ErrSyntax}, {"(forall ((x E)) (! ?nope) true)", 19, api.ErrUnknown}, {"(forall ((x E)) (! (f 1)) true)", 19, api.ErrSort}, {"(forall ((x E)) (! !) true)", 19, api.ErrSyntax}, {"(forall ((x E)) ! true)", 16, api.ErrSyntax},
		// What the form says comes at the end.
		{"(forall ((x E) (x E)) true)", 0, api.ErrTwice}, {"(forall ((x E) (x E)) true", 26, api.ErrSyntax}, {"(forall ((x E) (x E)) c)", 0, api.ErrSort}, {"(forall (" + strings.Repeat("(x E) ", 13) + ") true)", 0, api.ErrMany}, {wide, 0, api.ErrMany}, {deep, 0, api.ErrDeep}, {wide + ")", len(wide), api.ErrSyntax}, {strings.Repeat("(not ", 13000), 65000, api.ErrSyntax}, {strings.Repeat("(", 65536), 1, api.ErrSyntax}, {strings.Repeat(" ", 65537), 0, api.ErrLong}, {strings.Repeat(" ", 65532) + "true", 0, api.OK}, {strings.Repeat(" ", 65533) + "true", 0, api.ErrLong},
	} {
		x, at, e := Parse(sig(), given, c.s)
		if at != c.at || e != c.e || (x == nil) != (e != api.OK) {
			t.Errorf("Parse(%.80q): %d at %d, want %d at %d", c.s, e, at, c.e, c.at)
		}
	}
	for i, c := range []struct {
		vars []api.Bound
		want api.Errno
	}{{manyVars(101), api.ErrMany}, {[]api.Bound{{Name: "", Sort: "F"}}, api.ErrName}, {[]api.Bound{{Name: "x", Sort: "E"}, {Name: "x", Sort: "F"}}, api.ErrTwice}, {[]api.Bound{{Name: "x", Sort: "F"}}, api.ErrSort}, {manyVars(100), api.OK}} {
		s := "c"
		if c.want != api.OK {
			s = strings.Repeat("(", 70000)
		}
		if _, at, e := Parse(sig(), c.vars, s); at != 0 || e != c.want {
			t.Errorf("%d: %d at %d, want %d", i, e, at, c.want)
		}
	}
}

// TestPlaces checks that a text can be continued up to the place of a syntax error, and not behind it.
func TestPlaces(t *testing.T) { // P9.5
	r := rand.New(rand.NewSource(6))
	m := maker{r}
	words := []string{"(", ")", "(", ")", "c", "f", "p", "?x", "?u", "and", "not", "=", "forall", "((x E))", "!", "1", "1/2", "true", "nope", "?nope", "E", "(! ?x)", "-1x", "=>", "\n"}
	counts := map[api.Errno]int{}
	for range 6000 {
		s := text(t, m.formula(2, openVars))
		tokens := strings.Fields(strings.NewReplacer("(", " ( ", ")", " ) ").Replace(s))
		for range 1 + r.Intn(2) {
			at := r.Intn(len(tokens))
			switch r.Intn(3) {
			case 0:
				tokens[at] = words[r.Intn(len(words))]
			case 1:
				tokens = append(tokens[:at], append([]string{words[r.Intn(len(words))]}, tokens[at:]...)...)
			default:
				if len(tokens) > 1 {
					tokens = append(tokens[:at], tokens[at+1:]...)
				}
			}
		}
		s = strings.Join(tokens, " ")
		x, at, e := Parse(sig(), openVars, s)
		counts[e]++
		if e == api.OK {
			if _, f := Check(sig(), openVars, x); f != api.OK {
				t.Fatalf("%s: %d", s, f)
			}
			continue
		}
		if at < 0 || at > len(s) {
			t.Fatalf("%s: %d at %d", s, e, at)
		}
		// What stands before is an unfinished text, or a whole one.
		if _, before, f := Parse(sig(), openVars, s[:at]); e == api.ErrSyntax && f != api.OK && f != api.ErrTwice && (f != api.ErrSyntax || before != at) {
			t.Fatalf("%s: %d at %d, but before it %d at %d", s, e, at, f, before)
		}
		// What follows does not matter.
		if e == api.ErrSyntax && at < len(s) {
			end := at + 1
			for s[at] != '(' && s[at] != ')' && end < len(s) && !strings.ContainsRune(" \n()", rune(s[end])) {
				end++
			}
			if _, again, f := Parse(sig(), openVars, s[:end]+" "+words[r.Intn(len(words))]); f != e || again != at {
				t.Fatalf("%s: %d at %d, and %d at %d", s, e, at, f, again)
			}
		}
	}
	for _, e := range []api.Errno{api.OK, api.ErrSyntax, api.ErrUnknown, api.ErrArgs, api.ErrSort} {
		if counts[e] == 0 {
			t.Errorf("no text with the error %d: %v", e, counts)
		}
	}
}
