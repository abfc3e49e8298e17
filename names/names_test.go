package names_test

import (
	"fmt"
	"math/rand/v2"
	"regexp"
	"slices"
	"strings"
	"testing"

	"simulator/api"
	"simulator/names"
)

// keywords has the keywords of the chapter.
func keywords() []string {
	return strings.Fields("add after and at belt bool conserve const count cycle down draw dur else end every false fault fifo free from geom get hold if int into least level lifo link local max min model not now observe or param preempt prio put queue release resource ride routine seize send set shift signal site size spawn start stop store stream sum table tally ticks time true uniform until up var wait waiting while")
}

// shape is what a valid name looks like, but for the keywords, which look like names too.
var shape = regexp.MustCompile(`\A[a-z][a-z0-9_]{0,23}\z`)

// oracle tells what the chapter says of texts; it knows the keywords by a map of its own.
type oracle struct{ words map[string]bool }

func newOracle() oracle {
	words := map[string]bool{}
	for _, w := range keywords() {
		words[w] = true
	}
	return oracle{words}
}

// valid is the definition of a valid name.
func (o oracle) valid(s string) bool { return shape.MatchString(s) && !o.words[s] }

// path is the definition of a path: s is divided at each of its points in turn.
func (o oracle) path(s string) (string, string, bool) {
	for i := range len(s) {
		if s[i] == '.' && o.valid(s[:i]) && o.valid(s[i+1:]) {
			return s[:i], s[i+1:], true
		}
	}
	return "", "", false
}

// distinct is the definition of Distinct: each element is compared with all before it.
func (o oracle) distinct(l []string) api.Errno {
	for i, s := range l {
		if !o.valid(s) {
			return api.ErrName
		}
		for _, earlier := range l[:i] {
			if earlier == s {
				return api.ErrTwice
			}
		}
	}
	return api.OK
}

// check is the definition of Check.
func (o oracle) check(s string) api.Errno {
	if o.valid(s) {
		return api.OK
	}
	return api.ErrName
}

// test compares Keyword and Check with their definitions.
func (o oracle) test(t *testing.T, s string) {
	t.Helper()
	if got := names.Keyword(s); got != o.words[s] {
		t.Errorf("Keyword(%q) = %v", s, got)
	}
	if got := names.Check(s); got != o.check(s) {
		t.Errorf("Check(%q) = %v", s, got)
	}
}

// neighbours has the texts that s becomes by taking a byte out, by putting any byte in, or by replacing a byte by any one.
func neighbours(s string) []string {
	var all []string
	for i := range len(s) + 1 {
		for c := range 256 {
			all = append(all, s[:i]+string([]byte{byte(c)})+s[i:])
		}
		if i == len(s) {
			break
		}
		all = append(all, s[:i]+s[i+1:])
		for c := range 256 {
			all = append(all, s[:i]+string([]byte{byte(c)})+s[i+1:])
		}
	}
	return all
}

// texts calls f for all texts of up to n of the bytes of alphabet.
func texts(alphabet string, n int, f func(s string)) {
	f("")
	if n == 0 {
		return
	}
	for i := range len(alphabet) {
		texts(alphabet, n-1, func(s string) { f(alphabet[i:i+1] + s) })
	}
}

// validNames has valid names: short ones, the longest ones, and ones that are almost keywords.
func validNames() []string {
	return []string{
		"a", "z", "b", "a_9", "z0", "a_", "a__", "x1y2", "shop", "desk", "holds", "hol", "hold_", "hold1", "whiles", "whil", "i", "iff", "orr", "o",
		"abcdefghijklmnopqrstuvwx", "z99999999999999999999999", "a_______________________", "holdholdholdholdholdhold", "abcdefghijklmnopqrstuvw",
	}
}

// invalidNames has texts that are no valid names.
func invalidNames() []string {
	return append(keywords(),
		"", " ", "9a", "9", "_", "_a", "A", "aB", "Ab", "HOLD", "Hold", "holD", "a-b", "a.b", ".", "..", "a.", ".a", "a ", " a", "a b", "a\n", "a\x00", "\x00", "\x00a",
		"abcdefghijklmnopqrstuvwxy", "z999999999999999999999999", strings.Repeat("a", 48), strings.Repeat("a", 100000),
		"ä", "aä", "äa", "é", "a\u0301", "ａ", "a９", "a٣", "ß", "世界", "\xff", "a\xff", "\x80", "a\x80", "a\xc3", "{", "`", "a{", "a`", "a/", "a:", "@", "a@", "a[",
	)
}

// P7.1

func TestKeywords(t *testing.T) {
	words := keywords()
	if len(words) != 73 || !slices.IsSorted(words) {
		t.Fatal("these are not the words of the chapter", len(words))
	}
	for _, w := range words {
		if !names.Keyword(w) {
			t.Errorf("%s is no keyword", w)
		}
		if got := names.Check(w); got != api.ErrName {
			t.Errorf("the keyword %s is a name: %v", w, got)
		}
	}
}

func TestNeighboursOfKeywords(t *testing.T) {
	o := newOracle()
	for _, w := range keywords() {
		for _, s := range neighbours(w) {
			o.test(t, s)
		}
		for _, s := range []string{strings.ToUpper(w), strings.ToUpper(w[:1]) + w[1:], w + w, w + " " + w, " " + w, w + "s", w + "_", "_" + w, w + "9"} {
			o.test(t, s)
			if names.Keyword(s) {
				t.Errorf("%q is a keyword", s)
			}
		}
	}
}

func TestKeywordsTogetherAreNone(t *testing.T) {
	o := newOracle()
	for _, v := range keywords() {
		for _, w := range keywords() {
			for i := range len(v) + 1 {
				o.test(t, v[:i]+w)
			}
		}
	}
}

func TestOtherWordsAreNames(t *testing.T) {
	words := "created ended inside stored entered left counted mean seed run save load delay room units length step items place policy process begin forward backward then do done for func return break continue switch case default type package import variable integer boolean string number float list map array file goto try catch name names keyword path event agenda message world log plan arrive resume interrupt priority preempted holding report script trace replicate warmup batch"
	for _, w := range strings.Fields(words) {
		if names.Keyword(w) || names.Check(w) != api.OK {
			t.Errorf("%s is no name", w)
		}
	}
}

func TestAllShortTextsOfLetters(t *testing.T) {
	o := newOracle()
	found := map[string]bool{}
	texts("abcdefghijklmnopqrstuvwxyz", 4, func(s string) {
		o.test(t, s)
		if names.Keyword(s) {
			found[s] = true
		}
	})
	for _, w := range keywords() {
		if len(w) <= 4 && !found[w] {
			t.Errorf("%s was not found", w)
		}
	}
}

// P7.2

func TestExamplesOfCheck(t *testing.T) {
	for _, s := range validNames() {
		if got := names.Check(s); got != api.OK {
			t.Errorf("Check(%q) = %v", s, got)
		}
		if names.Keyword(s) {
			t.Errorf("the name %q is a keyword", s)
		}
	}
	for _, s := range invalidNames() {
		if got := names.Check(s); got != api.ErrName {
			t.Errorf("Check(%.30q) = %v", s, got)
		}
	}
}

func TestEachByteAsFirstOneAndAsALaterOne(t *testing.T) {
	o := newOracle()
	first, later := 0, 0
	for c := range 256 {
		s := string([]byte{byte(c)})
		o.test(t, s)
		if names.Check(s) == api.OK {
			first++
		}
		if names.Check("q"+s) == api.OK {
			later++
		}
		for size := 1; size <= 26; size++ {
			row := strings.Repeat("q", size)
			o.test(t, s+row[1:])
			for i := 1; i < size; i++ {
				o.test(t, row[:i]+s+row[i+1:])
			}
		}
	}
	if first != 26 || later != 26+10+1 {
		t.Errorf("%d bytes can be the first one, and %d a later one", first, later)
	}
}

func TestLengthsOfNames(t *testing.T) {
	for size := range 100 {
		want := api.ErrName
		if size >= 1 && size <= 24 {
			want = api.OK
		}
		for _, c := range []string{"a", "z", "7", "_"} {
			s := strings.Repeat(c, size)
			if size > 0 {
				s = "x" + s[1:]
			}
			if got := names.Check(s); got != want {
				t.Errorf("a name of %d bytes: %v", size, got)
			}
		}
	}
	// 24 runes are more than 24 bytes, and 12 runes of two bytes are 24 bytes, but no letters.
	for _, s := range []string{strings.Repeat("ä", 24), "a" + strings.Repeat("ä", 23), strings.Repeat("ä", 12), strings.Repeat("a", 1<<20)} {
		if got := names.Check(s); got != api.ErrName {
			t.Errorf("Check of %d bytes: %v", len(s), got)
		}
	}
}

func TestAllShortTextsOfSomeBytes(t *testing.T) {
	o := newOracle()
	texts("aifz_09.A \x00\x80\xff{`/:", 4, func(s string) { o.test(t, s) })
}

func TestTextsOfAnyBytes(t *testing.T) {
	o := newOracle()
	source := rand.New(rand.NewPCG(7, 1))
	for range 100000 {
		b := make([]byte, source.IntN(30))
		for i := range b {
			b[i] = byte(source.Uint32())
		}
		o.test(t, string(b))
	}
}

// P7.3

func TestExamplesOfFind(t *testing.T) {
	l := []string{"a", "b", "b"}
	odd := []string{"", "hold", "\xff", "a.b", "B", "b", "", "a.b", "bb", "b"}
	for _, c := range []struct {
		l    []string
		s    string
		want int
	}{
		{l, "a", 0}, {l, "b", 1}, {l, "c", -1}, {l, "", -1}, {l, "A", -1}, {l, "ab", -1}, {l, "b ", -1}, {l, "b\x00", -1},
		{odd, "", 0}, {odd, "hold", 1}, {odd, "\xff", 2}, {odd, "a.b", 3}, {odd, "B", 4}, {odd, "b", 5}, {odd, "bb", 8}, {odd, "bbb", -1}, {odd, "\xfe", -1}, {odd, "hol", -1},
		{nil, "a", -1}, {nil, "", -1}, {[]string{}, "a", -1}, {[]string{}, "", -1}, {[]string{""}, "", 0}, {[]string{"a"}, "", -1},
		{l[:1], "b", -1}, {l[2:], "b", 0}, {[]string{"c", "c", "c", "c"}, "c", 0},
	} {
		if got := names.Find(c.l, c.s); got != c.want {
			t.Errorf("Find(%q, %q) = %d, not %d", c.l, c.s, got, c.want)
		}
	}
}

func TestFindAtEachPlace(t *testing.T) {
	l := make([]string, 300)
	for i := range l {
		l[i] = fmt.Sprint("n", i)
	}
	for i, s := range l {
		if got := names.Find(l, s); got != i {
			t.Fatalf("%s is found at %d", s, got)
		}
		if got := names.Find(l[:i], s); got != -1 {
			t.Fatalf("%s is found at %d before it", s, got)
		}
	}
	if got := names.Find(append(l, l...), "n299"); got != 299 {
		t.Errorf("the later one is found: %d", got)
	}
}

func TestFindIsItsDefinition(t *testing.T) {
	source := rand.New(rand.NewPCG(7, 2))
	pool := []string{"a", "b", "ab", "", "hold", "A", "a.b", "\xff", strings.Repeat("a", 40)}
	for range 20000 {
		l := make([]string, source.IntN(8))
		for i := range l {
			l[i] = pool[source.IntN(len(pool))]
		}
		s := pool[source.IntN(len(pool))]
		got := names.Find(l, s)
		if got < -1 || got >= len(l) {
			t.Fatalf("Find(%q, %q) = %d", l, s, got)
		}
		if got >= 0 && l[got] != s {
			t.Fatalf("Find(%q, %q) = %d, where it is not", l, s, got)
		}
		before := l
		if got >= 0 {
			before = l[:got]
		}
		for _, other := range before {
			if other == s {
				t.Fatalf("Find(%q, %q) = %d, and it is before", l, s, got)
			}
		}
	}
}

// P7.4

func TestExamplesOfDistinct(t *testing.T) {
	long := strings.Repeat("a", 25)
	for _, c := range []struct {
		l    []string
		want api.Errno
	}{
		{nil, api.OK},
		{[]string{}, api.OK},
		{[]string{"a"}, api.OK},
		{[]string{"a", "b"}, api.OK},
		{[]string{"b", "a"}, api.OK},
		{[]string{"a", "ab", "abc", "b", "a_", "a0"}, api.OK},
		{[]string{"a", "b", "a"}, api.ErrTwice},
		{[]string{"a", "a"}, api.ErrTwice},
		{[]string{"a", "b", "c", "c"}, api.ErrTwice},
		{[]string{"hold"}, api.ErrName},
		{[]string{""}, api.ErrName},
		{[]string{long}, api.ErrName},
		{[]string{"a", "A"}, api.ErrName},
		{[]string{"a", "b", "c", "9"}, api.ErrName},
		{[]string{"a", "b", "a", "hold"}, api.ErrTwice},
		{[]string{"a", "hold", "a"}, api.ErrName},
		{[]string{"a", "b", "hold", "a", "b"}, api.ErrName},
		{[]string{"hold", "hold"}, api.ErrName},
		{[]string{"hold", "a", "a"}, api.ErrName},
		{[]string{"a", "a", "hold"}, api.ErrTwice},
		{[]string{"", ""}, api.ErrName},
		{[]string{"a", "", ""}, api.ErrName},
		{[]string{"a", "", "a"}, api.ErrName},
		{[]string{long, "a", "a"}, api.ErrName},
		{[]string{"a.b", "a.b"}, api.ErrName},
	} {
		if got := names.Distinct(c.l); got != c.want {
			t.Errorf("Distinct(%q) = %v, not %v", c.l, got, c.want)
		}
	}
}

func TestDistinctIsItsDefinition(t *testing.T) {
	o := newOracle()
	pool := []string{"a", "b", "c", "hold", "", "A"}
	// Every list of up to 6 elements of the pool: a text of up to 6 digits tells which ones.
	texts("012345", 6, func(digits string) {
		l := make([]string, len(digits))
		for i := range l {
			l[i] = pool[digits[i]-'0']
		}
		if got := names.Distinct(l); got != o.distinct(l) {
			t.Errorf("Distinct(%q) = %v", l, got)
		}
	})
}

func TestDistinctOfLongLists(t *testing.T) {
	l := make([]string, 1000)
	for i := range l {
		l[i] = fmt.Sprint("n", i)
	}
	if got := names.Distinct(l); got != api.OK {
		t.Fatal(got)
	}
	for i := range l {
		last := append(l[:len(l):len(l)], l[i])
		if got := names.Distinct(last); got != api.ErrTwice {
			t.Fatalf("the name %d again: %v", i, got)
		}
	}
	for i, s := range l {
		l[i] = s + "."
		if got := names.Distinct(l); got != api.ErrName {
			t.Fatalf("no name at %d: %v", i, got)
		}
		l[i] = s
	}
}

func TestDistinctAgreesWithCheckAndFind(t *testing.T) {
	for _, s := range append(validNames(), invalidNames()...) {
		if got := names.Distinct([]string{s}); got != names.Check(s) {
			t.Errorf("Distinct of %.30q alone: %v", s, got)
		}
	}
	l := validNames()
	if got := names.Distinct(l); got != api.OK {
		t.Errorf("the valid names: %v", got)
	}
	for _, s := range validNames() {
		if got := names.Distinct(append(l[:len(l):len(l)], s)); got != api.ErrTwice || names.Find(l, s) < 0 {
			t.Errorf("%s again: %v", s, got)
		}
	}
}

func TestListsAreLeftAlone(t *testing.T) {
	for _, l := range [][]string{{"c", "a", "b"}, {"b", "a", "b", "hold"}, {"hold", "b", "a"}, {"", "", "\xff"}} {
		memory := append(slices.Clone(l), "behind", "it")
		kept := slices.Clone(memory)
		part := memory[:len(l)]
		for range 2 {
			names.Find(part, "b")
			names.Find(part, "none")
			names.Distinct(part)
		}
		if !slices.Equal(memory, kept) {
			t.Errorf("%q became %q", kept, memory)
		}
	}
}

func TestNothingIsKeptBetweenCalls(t *testing.T) {
	for range 3 {
		if got := names.Distinct([]string{"a", "b"}); got != api.OK {
			t.Error(got)
		}
		if got := names.Distinct([]string{"b", "a", "b"}); got != api.ErrTwice {
			t.Error(got)
		}
	}
}

// P7.5

func TestExamplesOfJoin(t *testing.T) {
	for _, c := range []struct{ site, name, want string }{
		{"shop", "desk", "shop.desk"}, {"a", "b", "a.b"}, {"b", "a", "b.a"}, {"a", "a", "a.a"}, {"", "", "."}, {"a", "", "a."}, {"", "a", ".a"},
		{"a.b", "c", "a.b.c"}, {"a", "b.c", "a.b.c"}, {".", ".", "..."}, {"hold", "A 9", "hold.A 9"}, {"\xff", "\x00", "\xff.\x00"}, {"ä", "世", "ä.世"},
	} {
		if got := names.Join(c.site, c.name); got != c.want {
			t.Errorf("Join(%q, %q) = %q", c.site, c.name, got)
		}
	}
}

func TestExamplesOfSplit(t *testing.T) {
	long := strings.Repeat("a", 24)
	for _, c := range []struct {
		s, site, name string
		ok            bool
	}{
		{"shop.desk", "shop", "desk", true}, {"a.b", "a", "b", true}, {"a.a", "a", "a", true}, {"a_9.z0", "a_9", "z0", true}, {long + "." + long, long, long, true}, {"holds.whil", "holds", "whil", true},
		{"", "", "", false}, {".", "", "", false}, {"..", "", "", false}, {"a", "", "", false}, {"hold", "", "", false}, {"a.", "", "", false}, {".a", "", "", false},
		{"a.b.c", "", "", false}, {"a..b", "", "", false}, {"a.b.", "", "", false}, {".a.b", "", "", false}, {"hold.b", "", "", false}, {"a.hold", "", "", false}, {"hold.hold", "", "", false},
		{"a.9", "", "", false}, {"9.a", "", "", false}, {"A.b", "", "", false}, {"a.B", "", "", false}, {"a. b", "", "", false}, {"a .b", "", "", false}, {" a.b", "", "", false}, {"a.b\n", "", "", false},
		{"a,b", "", "", false}, {"a-b", "", "", false}, {"a\x00b", "", "", false}, {"aXb", "", "", false}, {"a\u3002b", "", "", false}, {"\xff.a", "", "", false}, {"a.\xff", "", "", false},
		{long + "a." + long, "", "", false}, {long + "." + long + "a", "", "", false}, {long + long, "", "", false},
	} {
		if site, name, ok := names.Split(c.s); site != c.site || name != c.name || ok != c.ok {
			t.Errorf("Split(%q) = %q, %q, %v", c.s, site, name, ok)
		}
	}
}

func TestSplitOfJoin(t *testing.T) {
	o := newOracle()
	for _, a := range append(validNames(), invalidNames()...) {
		for _, b := range append(validNames(), invalidNames()...) {
			both := o.valid(a) && o.valid(b)
			site, name, ok := names.Split(names.Join(a, b))
			if ok != both {
				t.Fatalf("%.30q and %.30q are divided: %v", a, b, ok)
			}
			if both && (site != a || name != b) {
				t.Fatalf("%q and %q become %q and %q", a, b, site, name)
			}
			if !both && (site != "" || name != "") {
				t.Fatalf("%.30q and %.30q become %.30q and %.30q", a, b, site, name)
			}
		}
	}
}

// testSplit compares Split with its definition, and joins what it returns.
func (o oracle) testSplit(t *testing.T, s string) {
	t.Helper()
	site, name, ok := names.Split(s)
	if wantSite, wantName, want := o.path(s); site != wantSite || name != wantName || ok != want {
		t.Errorf("Split(%q) = %q, %q, %v", s, site, name, ok)
	}
	if ok && names.Join(site, name) != s {
		t.Errorf("%q is joined as %q", s, names.Join(site, name))
	}
}

func TestSplitIsItsDefinition(t *testing.T) {
	o := newOracle()
	texts("aif9_.A ", 6, func(s string) { o.testSplit(t, s) })
	for c := range 256 {
		one := string([]byte{byte(c)})
		for _, s := range []string{"a" + one + "b", one + ".b", "a." + one, one + "a.b", "a" + one + ".b", "a." + one + "b", "a.b" + one} {
			o.testSplit(t, s)
		}
	}
	for _, w := range keywords() {
		for _, s := range neighbours(w) {
			o.testSplit(t, s+".a")
			o.testSplit(t, "a."+s)
		}
	}
}

func TestPathsOfLongParts(t *testing.T) {
	for left := range 30 {
		for right := range 30 {
			s := strings.Repeat("a", left) + "." + strings.Repeat("b", right)
			want := left >= 1 && left <= 24 && right >= 1 && right <= 24
			site, name, ok := names.Split(s)
			if ok != want || want && (len(site) != left || len(name) != right) {
				t.Errorf("Split(%q) = %q, %q, %v", s, site, name, ok)
			}
		}
	}
	for _, s := range []string{strings.Repeat("a.", 100000), strings.Repeat(".", 100000), strings.Repeat("a", 100000), "a." + strings.Repeat("a", 100000)} {
		if site, name, ok := names.Split(s); site != "" || name != "" || ok {
			t.Errorf("a text of %d bytes is divided: %q, %q, %v", len(s), site, name, ok)
		}
	}
}
