package lex_test

import (
	"fmt"
	"math"
	"math/big"
	"math/rand/v2"
	"regexp"
	"slices"
	"strings"
	"testing"

	"simulator/api"
	"simulator/lex"
)

// maxInt and maxText are the limits of the document, and not those of the program.
const (
	maxInt  = 1000000000000
	maxText = 20000
)

func word(s string, n int) api.Token    { return api.Token{Kind: api.TWord, Text: s, Line: n} }
func sign(s string, n int) api.Token    { return api.Token{Kind: api.TSign, Text: s, Line: n} }
func number(value, n int) api.Token     { return api.Token{Kind: api.TNumber, N: value, Line: n} }
func line(n int) api.Token              { return api.Token{Kind: api.TLine, Line: n} }
func end(n int) api.Token               { return api.Token{Kind: api.TEnd, Line: n} }
func list(l ...api.Token) []api.Token   { return l }
func same(a, b []api.Token) bool        { return slices.Equal(a, b) }
func decimal(n int) string              { return big.NewInt(int64(n)).String() }
func pick[T any](r *rand.Rand, l []T) T { return l[r.IntN(len(l))] }

// signs has the signs of the chapter.
func signs() []string { return strings.Fields("+ - * / % = != < <= > >= ( ) , : .") }

// token has the bytes with which a token begins, and takes the longest ones.
var token = regexp.MustCompile(`\A(?:[a-z][a-z0-9_]*|[0-9]+|!=|<=|>=|[-+*/%=<>(),:.])`)

// wordShape and decimalShape are what words and the decimal forms of integers from 0 on look like.
var (
	wordShape    = regexp.MustCompile(`\A[a-z][a-z0-9_]*\z`)
	decimalShape = regexp.MustCompile(`\A(?:0|[1-9][0-9]*)\z`)
)

// numberOf is the definition of a number.
func numberOf(s string) (int, bool) {
	if !decimalShape.MatchString(s) {
		return 0, false
	}
	n, _ := new(big.Int).SetString(s, 10)
	if n.Cmp(big.NewInt(maxInt)) > 0 {
		return 0, false
	}
	return int(n.Int64()), true
}

// rowOf is the definition of the tokens of a line that has no comment; false if it is wrong.
func rowOf(s string, n int) ([]api.Token, bool) {
	var row []api.Token
	for {
		s = strings.TrimLeft(s, " \t")
		if s == "" {
			return row, true
		}
		part := token.FindString(s)
		switch {
		case part == "":
			return nil, false
		case part[0] >= '0' && part[0] <= '9':
			value, ok := numberOf(part)
			if !ok {
				return nil, false
			}
			row = append(row, number(value, n))
		case slices.Contains(signs(), part):
			row = append(row, sign(part, n))
		default:
			row = append(row, word(part, n))
		}
		s = s[len(part):]
	}
}

// tokensOf is the definition of Tokens: line by line.
func tokensOf(s string) ([]api.Token, int, api.Errno) {
	if len(s) > maxText {
		return nil, 0, api.ErrLong
	}
	lines := strings.Split(s, "\n")
	var all []api.Token
	for i, text := range lines {
		text, _, _ = strings.Cut(text, "#")
		row, ok := rowOf(text, i+1)
		if !ok {
			return nil, i + 1, api.ErrForm
		}
		if len(row) > 0 {
			all = append(append(all, row...), line(i+1))
		}
	}
	return append(all, end(len(lines))), 0, api.OK
}

// checkOf is the definition of Check.
func checkOf(l []api.Token) api.Errno {
	for i, x := range l {
		first := i == 0
		var before api.Token
		if !first {
			before = l[i-1]
		}
		var formed bool
		switch x.Kind {
		case api.TWord:
			formed = x.N == 0 && wordShape.MatchString(x.Text)
		case api.TSign:
			formed = x.N == 0 && slices.Contains(signs(), x.Text)
		case api.TNumber:
			formed = x.Text == "" && x.N >= 0 && x.N <= maxInt
		case api.TLine, api.TEnd:
			formed = x.Text == "" && x.N == 0
		default:
			return api.ErrArg
		}
		if !formed {
			return api.ErrForm
		}
		if x.Kind == api.TLine && (first || before.Kind == api.TLine) {
			return api.ErrForm
		}
		if x.Kind == api.TEnd && (i != len(l)-1 || !first && before.Kind != api.TLine) {
			return api.ErrForm
		}
		if first && x.Line < 1 || !first && before.Kind != api.TLine && x.Line != before.Line {
			return api.ErrOrder
		}
		if !first && before.Kind == api.TLine && (x.Line < before.Line || x.Line == before.Line && x.Kind != api.TEnd) {
			return api.ErrOrder
		}
	}
	if len(l) == 0 || l[len(l)-1].Kind != api.TEnd {
		return api.ErrForm
	}
	return api.OK
}

// textOf is the definition of Text for a valid list whose lines are not too many: the texts of all lines, joined.
func textOf(l []api.Token) (string, api.Errno) {
	rows := make([]string, l[len(l)-1].Line)
	for _, x := range l {
		part := x.Text
		if x.Kind == api.TNumber {
			part = decimal(x.N)
		}
		if rows[x.Line-1] != "" && part != "" {
			part = " " + part
		}
		rows[x.Line-1] += part
	}
	text := strings.Join(rows, "\n")
	if len(text) > maxText {
		return "", api.ErrLong
	}
	return text, api.OK
}

// brief is a text that is short enough for a message.
func brief(s string) string {
	if len(s) > 80 {
		return fmt.Sprintf("%q and %d bytes", s[:80], len(s)-80)
	}
	return fmt.Sprintf("%q", s)
}

// testText compares all that is promised of a text with the definitions.
func testText(t *testing.T, s string) {
	t.Helper()
	l, n, errno := lex.Tokens(s)
	want, wantLine, wantErrno := tokensOf(s)
	if !same(l, want) || n != wantLine || errno != wantErrno {
		t.Fatalf("Tokens(%s) = %.300v, %d, %v, not %.300v, %d, %v", brief(s), l, n, errno, want, wantLine, wantErrno)
	}
	if errno == api.OK {
		testList(t, l)
	}
}

// testList compares all that is promised of a list with the definitions; its last line must not be too great for textOf.
func testList(t *testing.T, l []api.Token) {
	t.Helper()
	kept := slices.Clone(l)
	errno := lex.Check(l)
	if want := checkOf(l); errno != want {
		t.Fatalf("Check(%.300v) = %v, not %v", l, errno, want)
	}
	want, wantErrno, wantLines := "", errno, 0
	if errno == api.OK {
		want, wantErrno = textOf(l)
		for _, x := range l {
			if x.Kind == api.TLine {
				wantLines++
			}
		}
	}
	text, textErrno := lex.Text(l)
	if text != want || textErrno != wantErrno {
		t.Fatalf("Text(%.300v) = %s, %v, not %s, %v", l, brief(text), textErrno, brief(want), wantErrno)
	}
	if got := lex.Lines(l); got != wantLines {
		t.Fatalf("Lines(%.300v) = %d, not %d", l, got, wantLines)
	}
	if !same(l, kept) {
		t.Fatalf("%.300v was modified: %.300v", kept, l)
	}
	if textErrno == api.OK {
		again, n, errno := lex.Tokens(text)
		if !same(again, l) || n != 0 || errno != api.OK {
			t.Fatalf("Tokens(%s) = %.300v, %d, %v, not %.300v", brief(text), again, n, errno, l)
		}
	}
}

// texts calls f for all texts of up to n of the parts.
func texts(parts []string, n int, f func(s string)) {
	f("")
	if n == 0 {
		return
	}
	for _, part := range parts {
		texts(parts, n-1, func(s string) { f(part + s) })
	}
}

// bytesOf has the bytes of a text as parts.
func bytesOf(s string) []string {
	var parts []string
	for i := range len(s) {
		parts = append(parts, s[i:i+1])
	}
	return parts
}

// P8.1

func TestExamplesOfTokens(t *testing.T) {
	for _, c := range []struct {
		s    string
		want []api.Token
	}{
		{"", list(end(1))},
		{"\n", list(end(2))},
		{"\n\n", list(end(3))},
		{" ", list(end(1))},
		{" \t \n\t", list(end(2))},
		{"#", list(end(1))},
		{"# a\n#b\n", list(end(3))},
		{"a", list(word("a", 1), line(1), end(1))},
		{"a\n", list(word("a", 1), line(1), end(2))},
		{"a\n\n", list(word("a", 1), line(1), end(3))},
		{"\na", list(word("a", 2), line(2), end(2))},
		{"a\n\nb", list(word("a", 1), line(1), word("b", 3), line(3), end(3))},
		{"a = 1", list(word("a", 1), sign("=", 1), number(1, 1), line(1), end(1))},
		{"x<=10 # small", list(word("x", 1), sign("<=", 1), number(10, 1), line(1), end(1))},
		{"12ab", list(number(12, 1), word("ab", 1), line(1), end(1))},
		{"ab12", list(word("ab12", 1), line(1), end(1))},
		{"12_", nil},
		{"1 2", list(number(1, 1), number(2, 1), line(1), end(1))},
		{"a b", list(word("a", 1), word("b", 1), line(1), end(1))},
		{"a\tb", list(word("a", 1), word("b", 1), line(1), end(1))},
		{"a#b\nc", list(word("a", 1), line(1), word("c", 2), line(2), end(2))},
		{"a##b\n#\n#c#\nd", list(word("a", 1), line(1), word("d", 4), line(4), end(4))},
		{"model hold_9 a_", list(word("model", 1), word("hold_9", 1), word("a_", 1), line(1), end(1))},
		{"-1", list(sign("-", 1), number(1, 1), line(1), end(1))},
		{"a.b", list(word("a", 1), sign(".", 1), word("b", 1), line(1), end(1))},
		{"1.5", list(number(1, 1), sign(".", 1), number(5, 1), line(1), end(1))},
		{"<==", list(sign("<=", 1), sign("=", 1), line(1), end(1))},
		{"= =", list(sign("=", 1), sign("=", 1), line(1), end(1))},
		{"< =", list(sign("<", 1), sign("=", 1), line(1), end(1))},
		{"=<>=!=", list(sign("=", 1), sign("<", 1), sign(">=", 1), sign("!=", 1), line(1), end(1))},
		{"0 1000000000000", list(number(0, 1), number(maxInt, 1), line(1), end(1))},
		{"<\n=", list(sign("<", 1), line(1), sign("=", 2), line(2), end(2))},
		{"1\n2", list(number(1, 1), line(1), number(2, 2), line(2), end(2))},
		{"# \xff ü \r A ! \x00 007\nb", list(word("b", 2), line(2), end(2))},
	} {
		l, n, errno := lex.Tokens(c.s)
		if c.want == nil {
			if len(l) != 0 || n != 1 || errno != api.ErrForm {
				t.Errorf("Tokens(%q) = %v, %d, %v", c.s, l, n, errno)
			}
			continue
		}
		if !same(l, c.want) || n != 0 || errno != api.OK {
			t.Errorf("Tokens(%q) = %v, %d, %v, not %v", c.s, l, n, errno, c.want)
		}
	}
}

func TestFirstWrongLine(t *testing.T) {
	for _, c := range []struct {
		s    string
		line int
	}{
		{"a\nb ! c", 2}, {"a\n007", 2}, {"007", 1}, {"00", 1}, {"01", 1}, {"1000000000001", 1}, {"9999999999999", 1}, {"10000000000000", 1}, {"99999999999999999999", 1}, {"18446744073709551617", 1},
		{"A", 1}, {"aB", 1}, {"_a", 1}, {"_", 1}, {"!", 1}, {"! =", 1}, {"a!", 1}, {"!\n=", 1}, {"!#=", 1}, {"!!=", 1}, {"\n\na\r\n", 3}, {"\r", 1}, {"a\r\nb", 1}, {"a #\r\nb\r\n", 2},
		{"# ü\nü", 2}, {"ü", 1}, {"aü", 1}, {"a\xff", 1}, {"\x80", 1}, {"\xc3\n#\xa4", 1}, {"\n\xef\xbb\xbf", 2}, {"\ufeffa", 1}, {"a\u00a0b", 1}, {"a\u2028b", 1}, {"a\u0085", 1}, {"\x00", 1}, {"a\x0bb", 1}, {"a\x0cb", 1}, {"a\x7f", 1},
		{"!\n007\nA", 1}, {"007\n!\n", 1}, {"a\n\n007 !\nA", 3}, {"a\n# !\n0\n1 01", 4}, {"a 1 +\n\"b\"", 2}, {"'", 1}, {"a;b", 1}, {"[", 1}, {"a]", 1}, {"{", 1}, {"}", 1}, {"a & b", 1}, {"a | b", 1}, {"~", 1}, {"^", 1}, {"$", 1}, {"@", 1}, {"a?", 1}, {"\\\n", 1}, {"`", 1},
		{strings.Repeat("\n", maxText-1) + "!", maxText}, {strings.Repeat("\n", maxText-2) + "A\n", maxText - 1}, {strings.Repeat("a\n", 5000) + "a 00", 5001}, {strings.Repeat("9", maxText), 1}, {strings.Repeat("0", maxText), 1},
	} {
		if l, n, errno := lex.Tokens(c.s); len(l) != 0 || n != c.line || errno != api.ErrForm {
			t.Errorf("Tokens(%s) = %.80v, %d, %v, not the wrong line %d", brief(c.s), l, n, errno, c.line)
		}
	}
}

func TestEachSignAndEachPairOfSigns(t *testing.T) {
	all := signs()
	if len(all) != 16 {
		t.Fatal("these are not the signs of the chapter")
	}
	for _, a := range all {
		if l, _, errno := lex.Tokens(a); !same(l, list(sign(a, 1), line(1), end(1))) || errno != api.OK {
			t.Errorf("%q: %v, %v", a, l, errno)
		}
		for _, b := range all {
			l, _, errno := lex.Tokens(a + b)
			want := list(sign(a, 1), sign(b, 1), line(1), end(1))
			// Only < and > take a = that follows with them.
			if (a == "<" || a == ">") && b == "=" {
				want = list(sign(a+b, 1), line(1), end(1))
			}
			if !same(l, want) || errno != api.OK {
				t.Errorf("%q: %v, %v, not %v", a+b, l, errno, want)
			}
			if l, _, _ := lex.Tokens(a + " " + b); !same(l, list(sign(a, 1), sign(b, 1), line(1), end(1))) {
				t.Errorf("%q: %v", a+" "+b, l)
			}
			for _, c := range all {
				testText(t, a+b+c)
			}
			testText(t, "a"+a+"1"+b+"c")
			testText(t, a+"\n"+b)
			testText(t, a+"#"+b)
			testText(t, a+"\t"+b+"!")
		}
	}
}

func TestEachByteAtEachPlace(t *testing.T) {
	tokens := 0
	for c := range 256 {
		s := string([]byte{byte(c)})
		if _, _, errno := lex.Tokens(s); errno == api.OK {
			tokens++
		}
		for _, pattern := range []string{"$", "a$", "$a", "a$a", "1$", "$1", "1$1", "0$", "$0", "+$", "$+", "!$", "!=$", "<$", "$=", ">$=", "_$", "a_$", "a\n$", "$\na", "a $ b", "#$", "#\n$", "# $ !\n a", "a\t$", "\n\n$\n$", "$$", "$$$", "a1$1a"} {
			testText(t, strings.ReplaceAll(pattern, "$", s))
		}
		for d := range 256 {
			testText(t, string([]byte{byte(c), byte(d)}))
			testText(t, "#"+string([]byte{byte(c), byte(d)})+"\na")
			testText(t, "a"+string([]byte{byte(c), byte(d)}))
		}
	}
	// 26 letters, 10 digits, 13 signs of one byte, the blank, the tab, the line feed and #.
	if want := 26 + 10 + 13 + 4; tokens != want {
		t.Errorf("%d bytes are a text, not %d", tokens, want)
	}
}

func TestAllShortTexts(t *testing.T) {
	texts(bytesOf("az_09 \t\n#!=<>+.A\r\x80\xff"), 4, func(s string) { testText(t, s) })
	texts(bytesOf("a1 \n#="), 6, func(s string) { testText(t, s) })
	texts([]string{"ab", "_", "0", "10", "1000000000000", "<", "=", "!", " ", "\n", "# ü\xff#", "é"}, 4, func(s string) { testText(t, s) })
}

func TestWordsAndNumbersAreNotSeparated(t *testing.T) {
	for _, a := range []string{"a", "z9", "a_", "hold", "a__0"} {
		for _, n := range []int{0, 7, 10, 12, maxInt - 1, maxInt} {
			for _, b := range []string{"b", "x1", "end_"} {
				l, _, errno := lex.Tokens(decimal(n) + a + "." + decimal(n) + b + "\n" + a + decimal(n))
				want := list(number(n, 1), word(a, 1), sign(".", 1), number(n, 1), word(b, 1), line(1), word(a+decimal(n), 2), line(2), end(2))
				if !same(l, want) || errno != api.OK {
					t.Errorf("%v, %v, not %v", l, errno, want)
				}
			}
		}
	}
}

func TestLongWordsAndTexts(t *testing.T) {
	for _, c := range []struct {
		s    string
		want []api.Token
	}{
		{strings.Repeat("a", maxText), list(word(strings.Repeat("a", maxText), 1), line(1), end(1))},
		{"z" + strings.Repeat("_9", maxText/2-1) + "\n", list(word("z"+strings.Repeat("_9", maxText/2-1), 1), line(1), end(2))},
		{strings.Repeat(" ", maxText), list(end(1))},
		{strings.Repeat("\t", maxText), list(end(1))},
		{strings.Repeat("\n", maxText), list(end(maxText + 1))},
		{strings.Repeat("#", maxText), list(end(1))},
		{"#" + strings.Repeat("\xff", maxText-1), list(end(1))},
		{"#" + strings.Repeat("ü", maxText/2-1) + "\n", list(end(2))},
		{strings.Repeat("\n", maxText-1) + "a", list(word("a", maxText), line(maxText), end(maxText))},
	} {
		if len(c.s) != maxText {
			t.Fatal(len(c.s))
		}
		if l, n, errno := lex.Tokens(c.s); !same(l, c.want) || n != 0 || errno != api.OK {
			t.Errorf("%s: %.80v, %d, %v", brief(c.s), l, n, errno)
		}
		testText(t, c.s)
		for _, more := range []string{c.s + " ", c.s + "a", c.s + "!", c.s + "\n", " " + c.s, "!" + c.s, "007 " + c.s, c.s + c.s} {
			if l, n, errno := lex.Tokens(more); len(l) != 0 || n != 0 || errno != api.ErrLong {
				t.Errorf("%s: %.80v, %d, %v", brief(more), l, n, errno)
			}
		}
	}
	for _, s := range []string{strings.Repeat("!", maxText+1), strings.Repeat("9", maxText+1), "#" + strings.Repeat("ü", maxText/2), "#" + strings.Repeat("世", maxText/3+1), strings.Repeat("a", 1<<22), "A" + strings.Repeat("\n", maxText)} {
		if l, n, errno := lex.Tokens(s); len(l) != 0 || n != 0 || errno != api.ErrLong {
			t.Errorf("%s: %.80v, %d, %v", brief(s), l, n, errno)
		}
	}
	for _, row := range []string{"a ", "1 ", "a\n", "+", "a+", "1a", "a#\n", "\n\n ", "<=", "a=10 # b\n"} {
		testText(t, strings.Repeat(row, maxText/len(row)))
	}
}

// mixed is a random text of parts that mostly are tokens.
func mixed(r *rand.Rand, size int, wrong bool) string {
	parts := append(signs(), "a", "b_2", "hold", "x9", "0", "7", "10", "1000000000000", " ", " ", " ", "\t", "  ", "\n", "\n", "\n\n", "# b\n", "#\xff!A\n", "\t#\n", " # ü")
	if wrong {
		parts = append(parts, "!", "A", "_", "007", "1000000000001", "\r", "ü", "\xff")
	}
	var s strings.Builder
	for range size {
		s.WriteString(pick(r, parts))
		// Side by side many parts are something else, or wrong.
		if r.IntN(2) == 0 {
			s.WriteString(" ")
		}
	}
	return s.String()
}

func TestMixedTexts(t *testing.T) {
	r := rand.New(rand.NewPCG(8, 1))
	for range 20000 {
		testText(t, mixed(r, r.IntN(30), false))
		testText(t, mixed(r, r.IntN(30), true))
	}
	for range 50 {
		s := mixed(r, maxText/2, false)
		testText(t, s[:min(len(s), maxText-1+r.IntN(3))])
	}
}

func TestTextsOfAnyBytes(t *testing.T) {
	r := rand.New(rand.NewPCG(8, 2))
	for range 50000 {
		b := make([]byte, r.IntN(20))
		for i := range b {
			b[i] = byte(r.Uint32())
			if r.IntN(4) == 0 {
				b[i] = '#'
			}
		}
		testText(t, string(b))
		testText(t, "a#"+string(b))
	}
}

func TestTokensAreNewMemory(t *testing.T) {
	const s = "a = 1 # b\n\nc"
	l, _, _ := lex.Tokens(s)
	for i := range l {
		l[i] = number(7, 7)
	}
	_ = append(l, word("x", 1))
	testText(t, s)
	m, _, _ := lex.Tokens(s)
	m[0].Text = "z"
	n, _, _ := lex.Tokens(s)
	if n[0] != word("a", 1) {
		t.Error(n)
	}
}

// P8.2

// good is a valid list with every kind of token, two in a row where that is possible.
func good() []api.Token {
	return list(word("a", 2), sign("<=", 2), number(5, 2), line(2), number(maxInt, 3), line(3), word("b_1", 7), word("model", 7), line(7), end(9))
}

func TestExamplesOfCheck(t *testing.T) {
	const far = math.MaxInt
	for i, c := range []struct {
		l    []api.Token
		want api.Errno
	}{
		{good(), api.OK},
		{nil, api.ErrForm},
		{list(), api.ErrForm},
		{list(end(1)), api.OK},
		{list(end(7)), api.OK},
		{list(end(far)), api.OK},
		{list(end(0)), api.ErrOrder},
		{list(end(-1)), api.ErrOrder},
		{list(end(math.MinInt)), api.ErrOrder},
		{list(word("a", 1), line(1), end(1)), api.OK},
		{list(word("a", 1), line(1), end(2)), api.OK},
		{list(word("a", 1), line(1), end(far)), api.OK},
		{list(word("a", far), line(far), end(far)), api.OK},
		{list(word("a", far-1), line(far-1), word("b", far), line(far), end(far)), api.OK},
		{list(word("a", far), line(far), end(math.MinInt)), api.ErrOrder},
		{list(word("a", 0), line(0), end(0)), api.ErrOrder},
		{list(word("a", 0)), api.ErrOrder},
		{list(sign("+", -5)), api.ErrOrder},
		{list(number(0, math.MinInt)), api.ErrOrder},
		{list(line(1)), api.ErrForm},
		{list(line(1), end(1)), api.ErrForm},
		{list(line(0)), api.ErrForm},
		{list(word("a", 1)), api.ErrForm},
		{list(word("a", 1), line(1)), api.ErrForm},
		{list(word("a", 1), end(1)), api.ErrForm},
		{list(number(1, 1), end(1)), api.ErrForm},
		{list(sign("+", 1), end(1)), api.ErrForm},
		{list(end(1), end(1)), api.ErrForm},
		{list(end(1), word("a", 1), line(1), end(1)), api.ErrForm},
		{list(word("a", 1), line(1), end(1), end(1)), api.ErrForm},
		{list(word("a", 1), line(1), end(1), line(1)), api.ErrForm},
		{list(word("a", 1), line(1), line(1), end(1)), api.ErrForm},
		{list(word("a", 1), line(1), line(2), end(2)), api.ErrForm},
		{list(word("a", 1), line(1), word("b", 1), line(1), end(1)), api.ErrOrder},
		{list(word("a", 2), line(2), word("b", 1), line(1), end(1)), api.ErrOrder},
		{list(word("a", 1), line(1), number(1, 1), line(1), end(1)), api.ErrOrder},
		{list(word("a", 1), line(1), sign("+", 1), line(1), end(1)), api.ErrOrder},
		{list(word("a", 2), line(3), end(3)), api.ErrOrder},
		{list(word("a", 2), line(1), end(3)), api.ErrOrder},
		{list(word("a", 2), word("b", 3), line(3), end(3)), api.ErrOrder},
		{list(word("a", 2), word("b", 1), line(1), end(3)), api.ErrOrder},
		{list(word("a", 2), line(2), end(1)), api.ErrOrder},
		{list(word("Ab", 0)), api.ErrForm},
		{list(word("a", 0), word("Ab", 0)), api.ErrOrder},
		{list(word("a", 1), word("Ab", 0)), api.ErrForm},
		{list(api.Token{Kind: 5, Text: "Ab", N: -1}), api.ErrArg},
		{list(api.Token{Kind: -1, Line: 1}), api.ErrArg},
		{list(end(1), api.Token{Kind: 5}), api.ErrForm},
		{list(word("a", 1), api.Token{Kind: 5}), api.ErrArg},
		{list(api.Token{Kind: 5}, word("A", 1)), api.ErrArg},
		{list(word("A", 1), api.Token{Kind: 5}), api.ErrForm},
	} {
		if got := lex.Check(c.l); got != c.want {
			t.Errorf("%d: Check(%v) = %v, not %v", i, c.l, got, c.want)
		}
		if got := checkOf(c.l); got != c.want {
			t.Errorf("%d: the definition says %v", i, got)
		}
		text, errno := lex.Text(c.l)
		if c.want != api.OK && (text != "" || errno != c.want || lex.Lines(c.l) != 0) {
			t.Errorf("%d: Text is %s, %v; Lines is %d", i, brief(text), errno, lex.Lines(c.l))
		}
	}
}

func TestKindsOfTokens(t *testing.T) {
	unknown := []api.TokenKind{5, 6, 100, -1, -2, math.MaxInt, math.MinInt}
	for i := range good() {
		for _, kind := range unknown {
			l := good()
			l[i].Kind = kind
			if got := lex.Check(l); got != api.ErrArg {
				t.Errorf("kind %d at %d: %v", kind, i, got)
			}
			l[i] = api.Token{Kind: kind, Text: "A", N: -7, Line: -7}
			if got := lex.Check(l); got != api.ErrArg {
				t.Errorf("kind %d at %d: %v", kind, i, got)
			}
			testList(t, l)
		}
	}
}

func TestFieldsOfEachKind(t *testing.T) {
	accepted := map[api.TokenKind]int{}
	for _, text := range append(signs(), "", "a", "z", "a9_", "hold", strings.Repeat("a", 100), "A", "aB", "a-b", "_", "_a", "9", "9a", "a ", " a", "a\n", "\n", "ä", "aä", "\xff", "a\x00", "#", "!", "==", "=<", "=>", "<>", "+ ", " +", "++", "-1", "1", "&", "a.b", "<==", "!==") {
		for _, n := range []int{0, 1, 7, maxInt - 1, maxInt, maxInt + 1, math.MaxInt, -1, math.MinInt} {
			for _, kind := range []api.TokenKind{api.TWord, api.TNumber, api.TSign} {
				l := list(api.Token{Kind: kind, Text: text, N: n, Line: 1}, line(1), end(1))
				testList(t, l)
				if lex.Check(l) == api.OK {
					accepted[kind]++
				} else if got := lex.Check(l); got != api.ErrForm {
					t.Errorf("%v: %v", l, got)
				}
			}
			for i, kind := range []api.TokenKind{api.TLine, api.TEnd} {
				l := list(word("a", 1), line(1), end(1))
				l[i+1] = api.Token{Kind: kind, Text: text, N: n, Line: 1}
				testList(t, l)
				if lex.Check(l) == api.OK {
					accepted[kind]++
				}
			}
		}
	}
	want := map[api.TokenKind]int{api.TWord: 5, api.TNumber: 5, api.TSign: 16, api.TLine: 1, api.TEnd: 1}
	for kind, n := range want {
		if accepted[kind] != n {
			t.Errorf("%d tokens of the kind %d are accepted, not %d", accepted[kind], kind, n)
		}
	}
}

// faults has elements with each fault alone and with several ones, and elements without any.
func faults() []api.Token {
	return list(
		word("a", 1), word("b", 2), word("a", 0), number(0, 1), number(-1, 1), sign("+", 2), sign("!", 2), line(1), line(2), line(0), end(1), end(2), end(3), end(0),
		api.Token{Kind: 5, Text: "A", N: -1, Line: -1}, api.Token{Kind: api.TWord, Text: "a", N: 1, Line: 1}, api.Token{Kind: api.TLine, Text: "\n", Line: 1}, api.Token{Kind: api.TEnd, N: 1, Line: 1},
	)
}

// lists calls f for all lists of up to n elements of l.
func lists(l []api.Token, n int, f func(l []api.Token)) {
	f(nil)
	if n == 0 {
		return
	}
	for _, x := range l {
		lists(l, n-1, func(rest []api.Token) { f(append(list(x), rest...)) })
	}
}

func TestAllShortListsWithFaults(t *testing.T) {
	lists(faults(), 4, func(l []api.Token) { testList(t, l) })
	lists(list(word("a", 1), word("a", 2), line(1), line(2), end(1), end(2), sign("+", 3)), 6, func(l []api.Token) { testList(t, l) })
}

func TestFaultsAtEachPlace(t *testing.T) {
	for i := range good() {
		for _, x := range faults() {
			l := good()
			l[i] = x
			testList(t, l)
			testList(t, slices.Insert(good(), i, x))
			for j := range good() {
				for _, y := range faults() {
					m := slices.Clone(l)
					m[j] = y
					testList(t, m)
				}
			}
		}
		testList(t, slices.Delete(good(), i, i+1))
		testList(t, good()[:i])
		testList(t, good()[i:])
	}
	testList(t, append(good(), good()...))
}

func TestListsAreAcceptedExactlyIfATextHasThem(t *testing.T) {
	// Up to five tokens, of which the last two are TLine and TEnd, in three lines have a text of at most seven bytes.
	var key [5]api.Token
	found := map[[5]api.Token]bool{}
	texts(bytesOf("a1+ \n"), 7, func(s string) {
		if l, _, errno := lex.Tokens(s); errno == api.OK && len(l) <= len(key) {
			found[[5]api.Token(append(l, make([]api.Token, len(key)-len(l))...))] = true
		}
	})
	var elements []api.Token
	for n := 1; n <= 3; n++ {
		elements = append(elements, word("a", n), number(1, n), sign("+", n), line(n), end(n))
	}
	accepted := 0
	lists(elements, len(key), func(l []api.Token) {
		clear(key[:])
		copy(key[:], l)
		ok := lex.Check(l) == api.OK
		if ok != found[key] {
			t.Fatalf("%v: accepted %v, found %v", l, ok, found[key])
		}
		if ok {
			accepted++
		}
	})
	// No token, or one to three in one line, or one in each of two lines, with each end; lines and ends are chosen of three.
	if want := 3 + (3+9+27)*6 + 9*(1+1+2); accepted != want {
		t.Errorf("%d lists are accepted, not %d", accepted, want)
	}
}

func TestCheckOfLongLists(t *testing.T) {
	var l []api.Token
	for n := 1; n <= 20000; n++ {
		l = append(l, word(strings.Repeat("a", n%50+1), n), number(n, n), line(n))
	}
	l = append(l, end(20000))
	// The text would be too long, which does not matter to Check.
	if got := lex.Check(l); got != api.OK {
		t.Fatal(got)
	}
	if got := lex.Lines(l); got != 20000 {
		t.Error(got)
	}
	if s, errno := lex.Text(l); s != "" || errno != api.ErrLong {
		t.Error(brief(s), errno)
	}
	r := rand.New(rand.NewPCG(8, 3))
	for range 100 {
		m := slices.Clone(l)
		m[r.IntN(len(m))] = pick(r, faults())
		testList(t, m)
	}
	if got := lex.Check(l[:len(l)-1]); got != api.ErrForm {
		t.Error(got)
	}
}

// P8.3

func TestExamplesOfText(t *testing.T) {
	for _, c := range []struct {
		l    []api.Token
		want string
	}{
		{list(end(1)), ""},
		{list(end(2)), "\n"},
		{list(end(3)), "\n\n"},
		{list(word("a", 1), line(1), end(1)), "a"},
		{list(word("a", 1), line(1), end(2)), "a\n"},
		{list(word("a", 2), line(2), end(3)), "\na\n"},
		{list(word("a", 1), line(1), word("b", 2), line(2), end(2)), "a\nb"},
		{list(word("a", 1), line(1), word("b", 3), line(3), end(5)), "a\n\nb\n\n"},
		{list(word("x", 1), sign("<=", 1), number(10, 1), line(1), end(1)), "x <= 10"},
		{list(sign("<", 1), sign("=", 1), line(1), end(1)), "< ="},
		{list(number(12, 1), word("ab", 1), line(1), end(1)), "12 ab"},
		{list(word("ab", 1), number(0, 1), number(maxInt, 1), line(1), end(1)), "ab 0 1000000000000"},
		{list(word("send", 3), word("pack", 3), sign(".", 3), word("box", 3), sign("(", 3), number(1, 3), sign(")", 3), line(3), end(3)), "\n\nsend pack . box ( 1 )"},
		{good(), "\na <= 5\n1000000000000\n\n\n\nb_1 model\n\n"},
	} {
		if got, errno := lex.Text(c.l); got != c.want || errno != api.OK {
			t.Errorf("Text(%v) = %q, %v, not %q", c.l, got, errno, c.want)
		}
		testList(t, c.l)
	}
}

func TestTextsOfAllLengths(t *testing.T) {
	// Each list has a text of size bytes.
	for size := maxText - 3; size <= maxText+3; size++ {
		for i, l := range [][]api.Token{
			list(end(size + 1)),
			list(word("a", 1), line(1), end(size)),
			list(word("a", size), line(size), end(size)),
			list(word("a", size-1), line(size-1), end(size)),
			list(word("ab", size-1), line(size-1), end(size-1)),
			list(number(10, size-1), line(size-1), end(size-1)),
			list(sign("!=", size-1), line(size-1), end(size-1)),
			list(number(maxInt, 7), line(7), end(size-12)),
			list(word(strings.Repeat("a", size), 1), line(1), end(1)),
			list(word(strings.Repeat("a", size-1), 1), line(1), end(2)),
			list(word(strings.Repeat("a", size-1), 2), line(2), end(2)),
			list(word(strings.Repeat("a", size-2), 2), line(2), end(3)),
			list(word(strings.Repeat("a", size-2), 1), word("b", 1), line(1), end(1)),
			list(word(strings.Repeat("a", size-3), 1), number(7, 1), line(1), end(2)),
			list(word("a", 1), sign("+", 1), number(7, 1), line(1), word("b", size-5), line(size-5), end(size-5)),
		} {
			text, errno := lex.Text(l)
			if size <= maxText && (len(text) != size || errno != api.OK) || size > maxText && (text != "" || errno != api.ErrLong) {
				t.Errorf("list %d of %d bytes: %d bytes, %v", i, size, len(text), errno)
			}
			if lex.Check(l) != api.OK {
				t.Errorf("list %d of %d bytes is not valid", i, size)
			}
			testList(t, l)
		}
	}
}

func TestTextsOfManyTokens(t *testing.T) {
	for n := 9998; n <= 10003; n++ {
		// n tokens of one byte and the blanks between them have 2 n - 1 bytes.
		var l []api.Token
		for range n {
			l = append(l, sign("+", 1))
		}
		l = append(l, line(1), end(1))
		text, errno := lex.Text(l)
		if n <= 10000 && (len(text) != 2*n-1 || errno != api.OK) || n > 10000 && (text != "" || errno != api.ErrLong) {
			t.Errorf("%d tokens: %d bytes, %v", n, len(text), errno)
		}
		l[len(l)-1] = end(2)
		text, errno = lex.Text(l)
		if n <= 10000 && (len(text) != 2*n || errno != api.OK) || n > 10000 && (text != "" || errno != api.ErrLong) {
			t.Errorf("%d tokens and a line feed: %d bytes, %v", n, len(text), errno)
		}
	}
}

func TestTextsOfGreatLines(t *testing.T) {
	for _, n := range []int{maxText + 2, 2 * maxText, 1 << 31, 1 << 32, 1<<32 + 1, 1 << 40, 1 << 62, math.MaxInt - 1, math.MaxInt} {
		for _, l := range [][]api.Token{
			list(end(n)),
			list(word("a", 1), line(1), end(n)),
			list(word("a", n), line(n), end(n)),
			list(word("a", n-1), line(n-1), end(n)),
			list(word("a", 1), line(1), word("b", n), line(n), end(n)),
			list(number(1, n/2), line(n/2), number(2, n), line(n), end(n)),
		} {
			if got := lex.Check(l); got != api.OK {
				t.Errorf("Check(%v) = %v", l, got)
			}
			if text, errno := lex.Text(l); text != "" || errno != api.ErrLong {
				t.Errorf("Text(%v) = %s, %v", l, brief(text), errno)
			}
			if got := lex.Lines(l); got != len(l)/2 {
				t.Errorf("Lines(%v) = %d", l, got)
			}
			// Check's errors come before the length.
			l[len(l)-1].N = 1
			if text, errno := lex.Text(l); text != "" || errno != api.ErrForm {
				t.Errorf("Text(%v) = %s, %v", l, brief(text), errno)
			}
			l[len(l)-1] = end(-n)
			if text, errno := lex.Text(l); text != "" || errno != api.ErrOrder {
				t.Errorf("Text(%v) = %s, %v", l, brief(text), errno)
			}
			l[len(l)-1].Kind = 9
			if text, errno := lex.Text(l); text != "" || errno != api.ErrArg {
				t.Errorf("Text(%v) = %s, %v", l, brief(text), errno)
			}
		}
	}
}

// randomList is a random valid list.
func randomList(r *rand.Rand) []api.Token {
	var l []api.Token
	n := 1
	for range r.IntN(6) {
		n += r.IntN(3)
		for range 1 + r.IntN(5) {
			switch r.IntN(3) {
			case 0:
				l = append(l, word(pick(r, []string{"a", "b_", "hold", "z9", "x_1_y"}), n))
			case 1:
				l = append(l, number(pick(r, []int{0, 1, 10, maxInt, r.IntN(maxInt)}), n))
			default:
				l = append(l, sign(pick(r, signs()), n))
			}
		}
		l = append(l, line(n))
		n++
	}
	// A list without tokens begins in line 1 at least; behind a TLine the end can be in its line.
	return append(l, end(max(n-1, 1)+r.IntN(3)))
}

func TestRandomLists(t *testing.T) {
	r := rand.New(rand.NewPCG(8, 4))
	for range 20000 {
		l := randomList(r)
		if got := lex.Check(l); got != api.OK {
			t.Fatalf("Check(%v) = %v", l, got)
		}
		testList(t, l)
		for range 3 {
			m := slices.Clone(l)
			x := &m[r.IntN(len(m))]
			switch r.IntN(5) {
			case 0:
				x.Kind = api.TokenKind(r.IntN(8) - 1)
			case 1:
				x.N = pick(r, []int{-1, 0, 1, maxInt, maxInt + 1})
			case 2:
				x.Text = pick(r, []string{"", "a", "+", "A", "1", "=="})
			case 3:
				x.Line += r.IntN(3) - 1
			default:
				*x = pick(r, l)
			}
			if m[len(m)-1].Line < 100 {
				testList(t, m)
			}
		}
	}
}

// P8.4

func TestExamplesOfNumber(t *testing.T) {
	for _, c := range []struct {
		s    string
		want int
		ok   bool
	}{
		{"0", 0, true}, {"1", 1, true}, {"9", 9, true}, {"10", 10, true}, {"999999999999", 999999999999, true}, {"1000000000000", maxInt, true},
		{"1000000000001", 0, false}, {"", 0, false}, {"010", 0, false}, {"00", 0, false}, {"-1", 0, false}, {"-0", 0, false}, {"+1", 0, false}, {"+0", 0, false}, {"-", 0, false}, {"+", 0, false}, {"-1000000000000", 0, false}, {"-1000000000001", 0, false},
		{" 1", 0, false}, {"1 ", 0, false}, {"1\n", 0, false}, {"1a", 0, false}, {"a1", 0, false}, {"1_0", 0, false}, {"_1", 0, false}, {"0x1", 0, false}, {"0b1", 0, false}, {"0o7", 0, false}, {"1e3", 0, false}, {"1.0", 0, false}, {"1,000", 0, false}, {"٣", 0, false}, {"１", 0, false}, {"1\x00", 0, false}, {"\xff", 0, false},
		{"9999999999999", 0, false}, {"9223372036854775807", 0, false}, {"9223372036854775808", 0, false}, {"18446744073709551616", 0, false}, {"18446744073709551617", 0, false}, {"99999999999999999999", 0, false}, {strings.Repeat("9", 30000), 0, false}, {strings.Repeat("0", 30000), 0, false}, {"01000000000000", 0, false},
	} {
		if n, ok := lex.Number(c.s); n != c.want || ok != c.ok {
			t.Errorf("Number(%.30q) = %d, %v", c.s, n, ok)
		}
	}
}

func TestNumbersInDecimal(t *testing.T) {
	test := func(n int) {
		s := decimal(n)
		got, ok := lex.Number(s)
		if inside := n >= 0 && n <= maxInt; ok != inside || ok && got != n || !ok && got != 0 {
			t.Fatalf("Number(%q) = %d, %v", s, got, ok)
		}
		for _, other := range []string{"0" + s, "+" + s, " " + s, s + " ", s + ".", s + "\n", "00" + s} {
			if got, ok := lex.Number(other); got != 0 || ok {
				t.Fatalf("Number(%q) = %d, %v", other, got, ok)
			}
		}
	}
	for n := -1000; n <= 200000; n++ {
		test(n)
	}
	for power := 1; power <= maxInt; power *= 10 {
		for digit := 1; digit <= 10; digit++ {
			for d := -20; d <= 20; d++ {
				test(digit*power + d)
			}
		}
	}
	for bit := range 63 {
		for d := -3; d <= 3; d++ {
			test(1<<bit + d)
			test(-1<<bit - d)
		}
	}
	r := rand.New(rand.NewPCG(8, 5))
	for range 100000 {
		test(r.IntN(maxInt + 1))
		test(int(r.Uint64() >> r.IntN(40)))
	}
	test(math.MaxInt)
	test(math.MinInt)
}

func TestNumberIsItsDefinition(t *testing.T) {
	test := func(s string) {
		want, wantOk := numberOf(s)
		if n, ok := lex.Number(s); n != want || ok != wantOk {
			t.Fatalf("Number(%q) = %d, %v, not %d, %v", s, n, ok, want, wantOk)
		}
		l, _, errno := lex.Tokens(s)
		if wantOk && (!same(l, list(number(want, 1), line(1), end(1))) || errno != api.OK) {
			t.Fatalf("Tokens(%q) = %v, %v", s, l, errno)
		}
	}
	texts(bytesOf("0159-+_ ax.\n\xff"), 4, test)
	texts([]string{"0", "1", "000000", "999999", "00000000000", "-"}, 4, test)
	for c := range 256 {
		for _, s := range []string{"$", "1$", "$1", "1$0", "100000000000$", "$000000000000", "1000000000000$", "$1000000000000"} {
			test(strings.ReplaceAll(s, "$", string([]byte{byte(c)})))
		}
	}
}

// P8.5

// trailing has what can stand at the end of a line without any effect.
func trailing() []string {
	return []string{" ", "\t", "   ", "\t \t", "#", " #", "# ", "# a", "\t# a = 1", "#!A007", " # \xff\xfe", "#ü世", "##", "# # #", "#\r", "#\x00", " # _"}
}

func TestEndsOfLinesDoNotMatter(t *testing.T) {
	for _, s := range []string{"", "\n", "a", "a\n", "\na\n\n", "a = 1", "x<=10 # small", "a\n\nb", "1\n2\n3", "<\n=", "a\n1", "a +\n- b\n", "send pack.box (1) after dur(2)\n", "a#\n#\nb#"} {
		want, _, errno := lex.Tokens(s)
		if errno != api.OK {
			t.Fatal(s, errno)
		}
		lines := strings.Split(s, "\n")
		for i := range lines {
			for _, more := range trailing() {
				changed := slices.Clone(lines)
				changed[i] += more
				all := strings.Join(changed, "\n")
				if l, n, errno := lex.Tokens(all); !same(l, want) || n != 0 || errno != api.OK {
					t.Errorf("Tokens(%q) = %v, %d, %v, not %v", all, l, n, errno, want)
				}
			}
		}
	}
}

func TestEndsOfAllLinesDoNotMatter(t *testing.T) {
	r := rand.New(rand.NewPCG(8, 6))
	right := 0
	for i := range 20000 {
		s := mixed(r, r.IntN(20), i%3 == 0)
		want, wantLine, wantErrno := lex.Tokens(s)
		lines := strings.Split(s, "\n")
		for i := range lines {
			if r.IntN(2) == 0 {
				lines[i] += pick(r, trailing())
			}
		}
		all := strings.Join(lines, "\n")
		l, n, errno := lex.Tokens(all)
		if !same(l, want) || n != wantLine || errno != wantErrno {
			t.Fatalf("Tokens(%q) = %v, %d, %v, not %v, %d, %v", all, l, n, errno, want, wantLine, wantErrno)
		}
		if errno == api.OK {
			right++
		}
		testText(t, all)
	}
	if right < 5000 {
		t.Errorf("only %d of the texts have tokens", right)
	}
}

func TestCommentsTakeTheRestOfTheirLineOnly(t *testing.T) {
	for _, c := range []struct {
		s    string
		want []api.Token
	}{
		{"#a\nb", list(word("b", 2), line(2), end(2))},
		{"a#\nb", list(word("a", 1), line(1), word("b", 2), line(2), end(2))},
		{"a # b # c\nd", list(word("a", 1), line(1), word("d", 2), line(2), end(2))},
		{"1#2\n#\n3", list(number(1, 1), line(1), number(3, 3), line(3), end(3))},
		{"<#=\n=", list(sign("<", 1), line(1), sign("=", 2), line(2), end(2))},
		{"a#b\rc\nd", list(word("a", 1), line(1), word("d", 2), line(2), end(2))},
		{"a#\xe4\xb8\nb", list(word("a", 1), line(1), word("b", 2), line(2), end(2))},
		{"a#\xf0\x9f\x98\nb", list(word("a", 1), line(1), word("b", 2), line(2), end(2))},
		{"a#\u2028b\u0085c\nd", list(word("a", 1), line(1), word("d", 2), line(2), end(2))},
		{"# no line feed", list(end(1))},
		{"a\n# no line feed", list(word("a", 1), line(1), end(2))},
	} {
		if l, n, errno := lex.Tokens(c.s); !same(l, c.want) || n != 0 || errno != api.OK {
			t.Errorf("Tokens(%q) = %v, %d, %v, not %v", c.s, l, n, errno, c.want)
		}
	}
}

// Lines

func TestExamplesOfLines(t *testing.T) {
	for _, c := range []struct {
		s    string
		want int
	}{
		{"", 0}, {"\n\n\n", 0}, {"# a\n", 0}, {"a", 1}, {"a\n", 1}, {"\n\na\n\n", 1}, {"a b c", 1}, {"a\nb", 2}, {"a\n\n#\nb\n1\n", 3}, {strings.Repeat("a\n", 10000), 10000},
	} {
		l, _, _ := lex.Tokens(c.s)
		if got := lex.Lines(l); got != c.want {
			t.Errorf("Lines of %s is %d, not %d", brief(c.s), got, c.want)
		}
		if len(l) > 1 {
			for _, wrong := range [][]api.Token{l[:len(l)-1], l[1:], append(l[:len(l):len(l)], end(1))} {
				if got := lex.Lines(wrong); lex.Check(wrong) != api.OK && got != 0 {
					t.Errorf("Lines of a wrong list is %d", got)
				}
			}
		}
	}
	for _, l := range [][]api.Token{nil, list(), list(line(1)), list(word("a", 1), line(1)), list(line(1), line(2), end(3)), list(word("A", 1), line(1), end(1))} {
		if got := lex.Lines(l); got != 0 {
			t.Errorf("Lines(%v) = %d", l, got)
		}
	}
}
