package lex

import (
	"math/rand"
	"slices"
	"strconv"
	"strings"
	"testing"

	"entail/api"
)

// long is a word of n bytes.
func long(n int) string { return strings.Repeat("n", n) }

// listOf makes a list of tokens from kinds, texts and offsets.
func listOf(parts ...any) []Token {
	var l []Token
	for i := 0; i < len(parts); i += 3 {
		l = append(l, Token{parts[i].(int), parts[i+1].(string), parts[i+2].(int)})
	}
	return l
}

// plain is a list of tokens without their offsets.
func plain(l []Token) []Token {
	out := slices.Clone(l)
	for i := range out {
		out[i].At = 0
	}
	return out
}

func TestTokens(t *testing.T) { // P3.1
	for _, c := range []struct {
		s    string
		want []Token
	}{
		{"", nil}, {" \t\r\n", nil}, {"// x", nil}, {"//", nil}, {"/**/", nil}, {"/* a // b \n * / */", nil}, {"/*/ */", nil},
		{"x := M::f(3, 1.5); // end", listOf(Name, "x", 0, Sign, ":=", 2, Name, "M::f", 5, Sign, "(", 9, Number, "3", 10, Sign, ",", 11, Decimal, "1.5", 13, Sign, ")", 16, Sign, ";", 17)},
		{"s[0..n]", listOf(Name, "s", 0, Sign, "[", 1, Number, "0", 2, Sign, "..", 3, Name, "n", 5, Sign, "]", 6)},
		{"1.x", listOf(Number, "1", 0, Sign, ".", 1, Name, "x", 2)},
		{"1.", listOf(Number, "1", 0, Sign, ".", 1)},
		{"1..2", listOf(Number, "1", 0, Sign, "..", 1, Number, "2", 3)},
		{"1.2.3", listOf(Decimal, "1.2", 0, Sign, ".", 3, Number, "3", 4)},
		{"0.50", listOf(Decimal, "0.50", 0)},
		{"1 . 5", listOf(Number, "1", 0, Sign, ".", 2, Number, "5", 4)},
		{"a//b\nc", listOf(Name, "a", 0, Name, "c", 5)},
		{"a/*b*/c", listOf(Name, "a", 0, Name, "c", 6)},
		{"a/*/*/c", listOf(Name, "a", 0, Name, "c", 6)},
		{"a/b", listOf(Name, "a", 0, Sign, "/", 1, Name, "b", 2)},
		{"// \xff\x00 \u00e9\nx", listOf(Name, "x", 9)},
		{"_", listOf(Sign, "_", 0)},
		{"(_,_)", listOf(Sign, "(", 0, Sign, "_", 1, Sign, ",", 2, Sign, "_", 3, Sign, ")", 4)},
		{"a_1", listOf(Name, "a_1", 0)},
		{"if ifx", listOf(Keyword, "if", 0, Name, "ifx", 3)},
		{"bv1 bv64 bv0 bv65 bv08 bv bv8x", listOf(Keyword, "bv1", 0, Keyword, "bv64", 4, Name, "bv0", 9, Name, "bv65", 13, Name, "bv08", 18, Name, "bv", 23, Name, "bv8x", 26)},
		{"<==><==<<=<", listOf(Sign, "<==>", 0, Sign, "<=", 4, Sign, "=", 6, Sign, "<<", 7, Sign, "=", 9, Sign, "<", 10)},
		{"===>", listOf(Sign, "==", 0, Sign, "=>", 2)},
		{"==>", listOf(Sign, "==>", 0)},
		{":::|", listOf(Sign, "::", 0, Sign, ":|", 2)},
		{"||&&|&", listOf(Sign, "||", 0, Sign, "&&", 2, Sign, "|", 4, Sign, "&", 5)},
		{"M::N::f", listOf(Name, "M::N", 0, Sign, "::", 4, Name, "f", 6)},
		{"m::f", listOf(Name, "m", 0, Sign, "::", 1, Name, "f", 3)},
		{"a::f", listOf(Name, "a", 0, Sign, "::", 1, Name, "f", 3)},
		{"a z A Z azAZ", listOf(Name, "a", 0, Name, "z", 2, Name, "A", 4, Name, "Z", 6, Name, "azAZ", 8)},
		{"A::z Z::a", listOf(Name, "A::z", 0, Name, "Z::a", 5)},
		{"bv1A bv123", listOf(Name, "bv1A", 0, Name, "bv123", 5)},
		{"M:: f", listOf(Name, "M", 0, Sign, "::", 1, Name, "f", 4)},
		{"M::if", listOf(Name, "M", 0, Sign, "::", 1, Keyword, "if", 3)},
		{"M::bv8", listOf(Name, "M", 0, Sign, "::", 1, Keyword, "bv8", 3)},
		{"M::3", listOf(Name, "M", 0, Sign, "::", 1, Number, "3", 3)},
		{"M:f", listOf(Name, "M", 0, Sign, ":", 1, Name, "f", 2)},
		{long(24), listOf(Name, long(24), 0)},
		{"M" + long(23) + "::" + long(24), listOf(Name, "M"+long(23)+"::"+long(24), 0)},
		{"!in", listOf(Sign, "!", 0, Keyword, "in", 1)},
		{"a.C?", listOf(Name, "a", 0, Sign, ".", 1, Name, "C", 2, Sign, "?", 3)},
	} {
		l, at, e := Tokens(c.s)
		if !slices.Equal(l, c.want) || at != 0 || e != api.OK {
			t.Errorf("Tokens(%q): %v, %d, %d, want %v", c.s, l, at, e, c.want)
		}
	}
}

func TestTokenErrors(t *testing.T) { // P3.1
	many := strings.Repeat("; ", 20000)
	for _, c := range []struct {
		s    string
		at   int
		want api.Errno
	}{
		{"03", 0, api.ErrSyntax}, {"3x", 0, api.ErrSyntax}, {"3_", 0, api.ErrSyntax}, {"1.5x", 0, api.ErrSyntax}, {" 1.5_", 1, api.ErrSyntax},
		{"x 007", 2, api.ErrSyntax}, {"00", 0, api.ErrSyntax}, {"01.5", 0, api.ErrSyntax}, {"a $ b", 2, api.ErrSyntax}, {"/* x", 0, api.ErrSyntax},
		{"a /*/", 2, api.ErrSyntax}, {"a /* /* */ b */ $", 16, api.ErrSyntax}, {"a\x00", 1, api.ErrSyntax}, {"a \xc3\xa9", 2, api.ErrSyntax},
		{"a\xff", 1, api.ErrSyntax}, {"a\v", 1, api.ErrSyntax}, {"~", 0, api.ErrSyntax}, {"a \"b\"", 2, api.ErrSyntax}, {"x\\", 1, api.ErrSyntax},
		{"a " + long(25), 2, api.ErrName}, {"a M::" + long(25), 2, api.ErrName}, {"a N" + long(24) + "::f", 2, api.ErrName},
		{"m::" + long(25), 3, api.ErrName}, {long(25) + " $", 0, api.ErrName}, {"$ " + long(25), 0, api.ErrSyntax},
		{many, 0, api.OK}, {many + " ;", 40001, api.ErrMany}, {many + ";;;", 40000, api.ErrMany}, {many + ";;$", 40002, api.ErrSyntax},
		{strings.Repeat(" ", api.MaxText), 0, api.OK}, {strings.Repeat(" ", api.MaxText+1), 0, api.ErrLong}, {strings.Repeat("$", api.MaxText+1), 0, api.ErrLong},
	} {
		l, at, e := Tokens(c.s)
		if at != c.at || e != c.want || e != api.OK && len(l) > 0 {
			t.Errorf("Tokens(%.40q): %d tokens, %d, %d, want %d, %d", c.s, len(l), at, e, c.at, c.want)
		}
	}
}

func TestLists(t *testing.T) { // P3.1
	words, signs := Keywords(), Signs()
	wantWords := "array as assert assume bool by calc call case class const datatype decreases else ensures exists export false forall fresh fuel " +
		"function ghost greatest hidden if import in int invariant least lemma map match method modifies module multiset new old opaque print " +
		"reads real refines requires return returns reveal seq set then true type var while witness"
	if strings.Join(words, " ") != wantWords {
		t.Errorf("Keywords: %v", words)
	}
	want := "! != # % & && ( ) * + , - . .. / : :: := :| ; < << <= <==> = == ==> => > >= >> ? [ ] ^ { | || }"
	if strings.Join(signs, " ") != want {
		t.Errorf("Signs: %v", signs)
	}
	for _, w := range words {
		if l, _, e := Tokens(w); e != api.OK || !slices.Equal(l, listOf(Keyword, w, 0)) {
			t.Errorf("Tokens(%q): %v, %d", w, l, e)
		}
	}
	for _, s := range signs {
		if l, _, e := Tokens(s); e != api.OK || !slices.Equal(l, listOf(Sign, s, 0)) {
			t.Errorf("Tokens(%q): %v, %d", s, l, e)
		}
	}
	words[0], signs[0] = "changed", "changed"
	if Keywords()[0] != "array" || Signs()[0] != "!" {
		t.Error("a list is shared")
	}
}

func TestNames(t *testing.T) { // P3.2
	for _, c := range []struct {
		s            string
		name, global bool
		module, part string
	}{
		{"x", true, true, "", "x"}, {"X", true, true, "", "X"}, {"a_1", true, true, "", "a_1"}, {long(24), true, true, "", long(24)},
		{"M::f", false, true, "M", "f"}, {"M::F", false, true, "M", "F"}, {"M::" + long(24), false, true, "M", long(24)},
		{"bv65", true, true, "", "bv65"}, {"bvx", true, true, "", "bvx"}, {"M::bv99", false, true, "M", "bv99"},
		{"", false, false, "", ""}, {"_", false, false, "", ""}, {"_a", false, false, "", ""}, {"1a", false, false, "", ""}, {"if", false, false, "", ""},
		{"bv8", false, false, "", ""}, {"x ", false, false, "", ""}, {" x", false, false, "", ""}, {"x//", false, false, "", ""}, {"x y", false, false, "", ""},
		{"x\xff", false, false, "", ""}, {long(25), false, false, "", ""}, {"m::f", false, false, "", ""}, {"M::", false, false, "", ""}, {"::f", false, false, "", ""},
		{"M::if", false, false, "", ""}, {"M::f::g", false, false, "", ""}, {"M ::f", false, false, "", ""}, {"M:f", false, false, "", ""},
		{"M::" + long(25), false, false, "", ""}, {"M::_", false, false, "", ""}, {"+x", false, false, "", ""}, {strings.Repeat("x ", api.MaxText), false, false, "", ""},
	} {
		if IsName(c.s) != c.name || IsGlobal(c.s) != c.global {
			t.Errorf("IsName(%q): %v, IsGlobal: %v", c.s, IsName(c.s), IsGlobal(c.s))
		}
		want := api.OK
		if !c.global {
			want = api.ErrName
		}
		if m, n, e := Split(c.s); m != c.module || n != c.part || e != want {
			t.Errorf("Split(%q): %q, %q, %d", c.s, m, n, e)
		}
	}
}

func TestPlaces(t *testing.T) { // P3.3
	for _, c := range []struct {
		s                string
		at, line, column int
	}{{"a\nbcd", 4, 2, 3}, {"a\nbcd", 0, 1, 1}, {"a\nbcd", 1, 1, 2}, {"a\nbcd", 2, 2, 1}, {"a\nbcd", 5, 2, 4}, {"", 0, 1, 1}, {"\n", 0, 1, 1}, {"\n", 1, 2, 1}, {"a\r\n\n", 4, 3, 1}, {"\u00e9x", 2, 1, 3}} {
		if line, column, e := Position(c.s, c.at); line != c.line || column != c.column || e != api.OK {
			t.Errorf("Position(%q, %d): %d, %d, %d", c.s, c.at, line, column, e)
		}
		if at, e := Offset(c.s, c.line, c.column); at != c.at || e != api.OK {
			t.Errorf("Offset(%q, %d, %d): %d, %d", c.s, c.line, c.column, at, e)
		}
	}
	tooLong := strings.Repeat("x", api.MaxText+1)
	for _, c := range []struct {
		s    string
		at   int
		want api.Errno
	}{{"abc", -1, api.ErrRange}, {"abc", 4, api.ErrRange}, {"", 1, api.ErrRange}, {tooLong, 0, api.ErrLong}, {tooLong, -1, api.ErrLong}} {
		if line, column, e := Position(c.s, c.at); line != 0 || column != 0 || e != c.want {
			t.Errorf("Position(%.9q, %d): %d, %d, %d", c.s, c.at, line, column, e)
		}
	}
	for _, c := range []struct {
		s            string
		line, column int
		want         api.Errno
	}{
		{"a\nbcd", 0, 1, api.ErrRange}, {"a\nbcd", 3, 1, api.ErrRange}, {"a\nbcd", 1, 0, api.ErrRange}, {"a\nbcd", 1, 3, api.ErrRange}, {"a\nbcd", 2, 5, api.ErrRange},
		{"a\n", 2, 2, api.ErrRange}, {"", 2, 1, api.ErrRange}, {"", 1, 2, api.ErrRange}, {tooLong, 1, 1, api.ErrLong}, {tooLong, 0, 0, api.ErrLong}, {"a", -5, 1, api.ErrRange},
	} {
		if at, e := Offset(c.s, c.line, c.column); at != 0 || e != c.want {
			t.Errorf("Offset(%.9q, %d, %d): %d, %d", c.s, c.line, c.column, at, e)
		}
	}
}

func TestPlacesInverse(t *testing.T) { // P3.3
	r := rand.New(rand.NewSource(1))
	for range 300 {
		b := make([]byte, r.Intn(30))
		for i := range b {
			b[i] = "a\n\r \xff"[r.Intn(5)]
		}
		s := string(b)
		seen := map[[2]int]bool{}
		for at := range len(s) + 1 {
			line, column, e := Position(s, at)
			back, f := Offset(s, line, column)
			if e != api.OK || f != api.OK || back != at || seen[[2]int{line, column}] {
				t.Fatalf("%q, %d: %d, %d, %d", s, at, line, column, back)
			}
			seen[[2]int{line, column}] = true
		}
		for line := range 32 {
			for column := range 32 {
				if _, e := Offset(s, line, column); (e == api.OK) != seen[[2]int{line, column}] {
					t.Fatalf("%q, %d, %d: %d", s, line, column, e)
				}
			}
		}
	}
}

func TestJoin(t *testing.T) { // P3.4
	for _, c := range []struct {
		kinds []int
		texts string
		want  string
	}{
		{nil, "", ""},
		{[]int{Name, Sign, Sign, Name}, "a < < b", "a < < b"},
		{[]int{Name, Sign, Name, Sign}, "f ( x )", "f (x)"},
		{[]int{Name, Sign, Number, Sign, Sign, Number, Sign}, "s [ 0 ] [ 1 ]", "s[0][1]"},
		{[]int{Name, Sign, Name, Sign, Name, Sign}, "a . b . C ?", "a.b.C?"},
		{[]int{Number, Sign, Number}, "1 . 5", "1. 5"},
		{[]int{Decimal, Sign, Decimal}, "1.5 . 2.5", "1.5. 2.5"},
		{[]int{Name, Sign, Number}, "x . 5", "x. 5"},
		{[]int{Sign, Sign, Sign}, ". . .", ". . ."},
		{[]int{Sign, Sign}, ".. .", "..."},
		{[]int{Sign, Sign}, ". ..", ". .."},
		{[]int{Sign, Sign}, "! =", "! ="},
		{[]int{Sign, Sign}, "! ==", "! =="},
		{[]int{Sign, Sign}, "! =>", "! =>"},
		{[]int{Sign, Sign, Name}, "! ! x", "!!x"},
		{[]int{Sign, Keyword}, "! in", "!in"},
		{[]int{Sign, Name}, "# s", "#s"},
		{[]int{Sign, Sign, Number}, "- - 5", "- - 5"},
		{[]int{Name, Sign, Name}, "M :: f", "M :: f"},
		{[]int{Name, Sign, Name, Sign}, "M::f := x ;", "M::f := x;"},
		{[]int{Sign, Sign, Sign}, "/ / *", "/ / *"},
		{[]int{Number, Sign, Number}, "0 .. 1", "0 .. 1"},
		{[]int{Sign, Sign, Sign, Sign, Sign}, "( _ , _ )", "(_, _)"},
		{[]int{Name, Name}, "a b", "a b"},
		{[]int{Sign, Sign}, "{ }", "{ }"},
		{[]int{Sign, Sign}, "[ ]", "[]"},
		{[]int{Sign, Sign}, "( (", "(("},
		{[]int{Keyword, Sign}, "if (", "if ("},
	} {
		var l []Token
		for i, s := range strings.Fields(c.texts) {
			l = append(l, Token{c.kinds[i], s, -7})
		}
		if s, e := Join(l); s != c.want || e != api.OK {
			t.Errorf("Join(%s): %q, %d, want %q", c.texts, s, e, c.want)
		}
	}
}

func TestJoinErrors(t *testing.T) { // P3.4
	many := make([]Token, 20001)
	for i := range many {
		many[i] = Token{Kind: Sign, Text: ";"}
	}
	if s, e := Join(many); s != "" || e != api.ErrMany {
		t.Errorf("20001 tokens: %d", e)
	}
	if s, e := Join(many[:20000]); len(s) != 20000 || e != api.OK {
		t.Errorf("20000 tokens: %d, %d", len(s), e)
	}
	many[20000].Kind = 9
	if _, e := Join(many); e != api.ErrMany {
		t.Errorf("20001 tokens: %d", e)
	}
	digits := strings.Repeat("1", api.MaxText)
	for i, c := range []struct {
		l    []Token
		want api.Errno
	}{
		{listOf(-1, "x", 0), api.ErrKind}, {listOf(5, "", 0), api.ErrKind}, {listOf(Name, "x", 0, 5, "", 0), api.ErrKind},
		{listOf(Name, "if", 0, 5, "", 0), api.ErrForm}, {listOf(Name, "", 0), api.ErrForm}, {listOf(Keyword, "x", 0), api.ErrForm},
		{listOf(Name, " x", 0), api.ErrForm}, {listOf(Name, "x ", 0), api.ErrForm}, {listOf(Name, "x/**/", 0), api.ErrForm}, {listOf(Name, "x y", 0), api.ErrForm},
		{listOf(Sign, "//", 0), api.ErrForm}, {listOf(Sign, "===", 0), api.ErrForm}, {listOf(Sign, "$", 0), api.ErrForm}, {listOf(Number, "01", 0), api.ErrForm},
		{listOf(Number, "1.5", 0), api.ErrForm}, {listOf(Decimal, "1", 0), api.ErrForm}, {listOf(Decimal, "1.", 0), api.ErrForm}, {listOf(Name, long(25), 0), api.ErrForm},
		{listOf(Number, "-1", 0), api.ErrForm}, {listOf(Number, digits, 0), api.OK}, {listOf(Number, digits+"1", 0), api.ErrForm},
		{listOf(Number, digits, 0, Sign, ";", 0), api.ErrLong}, {listOf(Number, digits, 0, Sign, ";", 0, Name, "if", 0), api.ErrForm},
		{listOf(Number, digits[1:], 0, Sign, ";", 0), api.OK}, {listOf(Number, digits[1:], 0, Sign, "<", 0), api.ErrLong},
	} {
		s, e := Join(c.l)
		if e != c.want || e != api.OK && s != "" {
			t.Errorf("case %d: %d bytes, %d, want %d", i, len(s), e, c.want)
		}
	}
}

// randomToken returns a token of any kind.
func randomToken(r *rand.Rand) Token {
	choose := func(l ...string) string { return l[r.Intn(len(l))] }
	switch r.Intn(6) {
	case 0:
		return Token{Name, choose("x", "in_", "M", "M::f", "bv65", "a1"), r.Intn(9)}
	case 1:
		return Token{Keyword, choose("in", "if", "bv8", "old"), r.Intn(9)}
	case 2:
		return Token{Number, choose("0", "1", "42"), r.Intn(9)}
	case 3:
		return Token{Decimal, choose("0.0", "1.50", "42.7"), r.Intn(9)}
	}
	return Token{Sign, choose(append(Signs(), "_", ".", ".", "!", "=", "==", "..")...), r.Intn(9)}
}

func TestJoinedTokens(t *testing.T) { // P3.4, P3.5
	r := rand.New(rand.NewSource(2))
	none := func(left, right Token) bool {
		if left.Text == "." && (right.Kind == Number || right.Kind == Decimal) {
			return false
		}
		return strings.Contains("( [ # ! .", left.Text) || strings.Contains(") ] , ; . ? [", right.Text)
	}
	for range 20000 {
		l := make([]Token, r.Intn(8))
		for i := range l {
			l[i] = randomToken(r)
		}
		before := slices.Clone(l)
		s, e := Join(l)
		if e != api.OK || !slices.Equal(l, before) {
			t.Fatalf("Join(%v): %d", l, e)
		}
		back, _, e := Tokens(s)
		if e != api.OK || !slices.Equal(plain(back), plain(l)) {
			t.Fatalf("Join(%v): %q, %v", l, s, back)
		}
		for i := range len(l) - 1 {
			pair := l[i].Text + l[i+1].Text
			two, _, e := Tokens(pair)
			apart := e == api.OK && slices.Equal(plain(two), plain(l[i:i+2]))
			space := s[back[i].At+len(l[i].Text):back[i+1].At] == " "
			if space != (!apart || !none(l[i], l[i+1])) {
				t.Fatalf("Join(%v): %q, space %v", l, s, space)
			}
		}
		again, e := Join(back)
		if e != api.OK || again != s {
			t.Fatalf("Join(%v): %q, %q", l, s, again)
		}
	}
}

func TestTokensOfTexts(t *testing.T) { // P3.5
	r := rand.New(rand.NewSource(3))
	between := []string{" ", "\n", "\t", "\r", "/* ; */", "// if \n"}
	for range 3000 {
		var l []Token
		text := ""
		for range r.Intn(10) {
			for range 1 + r.Intn(3) {
				text += between[r.Intn(len(between))]
			}
			k := randomToken(r)
			k.At = len(text)
			if strings.HasSuffix(text, "/") && strings.HasPrefix(k.Text, "/") {
				continue
			}
			l = append(l, k)
			text += k.Text
			text += " "
		}
		got, at, e := Tokens(text)
		if e != api.OK || at != 0 || !slices.Equal(got, l) {
			t.Fatalf("Tokens(%q): %v, %d, want %v", text, got, e, l)
		}
		s, e := Join(got)
		back, _, f := Tokens(s)
		if e != api.OK || f != api.OK || !slices.Equal(plain(back), plain(l)) {
			t.Fatalf("Join and Tokens of %q: %q", text, s)
		}
	}
}

// TestTokensOfAnything reads random bytes: each token stands at its offset, and an error is at a place in the text.
func TestTokensOfAnything(t *testing.T) { // P3.1, P3.5
	r := rand.New(rand.NewSource(4))
	alphabet := []string{"a", "M", "::", ":", "1", "0", ".", "/", "*", "_", " ", "\n", "$", "<", "=", ">", "if", "\xc3", "|", "!", strconv.Itoa(r.Intn(99))}
	for range 30000 {
		text := ""
		for range r.Intn(9) {
			text += alphabet[r.Intn(len(alphabet))]
		}
		l, at, e := Tokens(text)
		if e != api.OK {
			if l != nil || at < 0 || at >= len(text) {
				t.Fatalf("Tokens(%q): %v, %d, %d", text, l, at, e)
			}
			// What stands before the error has no error of its own.
			if _, _, f := Tokens(text[:at]); f != api.OK {
				t.Fatalf("Tokens(%q): error at %d, and before it %d", text, at, f)
			}
			continue
		}
		end := 0
		for _, k := range l {
			if k.At < end || text[k.At:k.At+len(k.Text)] != k.Text {
				t.Fatalf("Tokens(%q): %v", text, l)
			}
			if gap, _, f := Tokens(text[end:k.At]); len(gap) != 0 || f != api.OK {
				t.Fatalf("Tokens(%q): a gap with tokens", text)
			}
			end = k.At + len(k.Text)
		}
	}
}
