package parse_test

import (
	"maps"
	"math/rand/v2"
	"slices"
	"strconv"
	"strings"
	"testing"

	"simulator/api"
	"simulator/expr"
	"simulator/model"
	"simulator/names"
	"simulator/parse"
	"simulator/stmt"
)

const keywords = "add after and at belt bool conserve const count cycle down draw dur else end every false fault fifo free from geom get hold if int into least level lifo link local max min model not now observe or param preempt prio put queue release resource ride routine seize send set shift signal site size spawn start stop store stream sum table tally ticks time true uniform until up var wait waiting while"

// samples returns texts of all forms for a rule, in an order that is always the same.
func samples(rule string) []string {
	switch rule {
	case "expr":
		return slices.Sorted(maps.Keys(exprForms()))
	case "stmts":
		return slices.Sorted(maps.Keys(stmtForms()))
	}
	return slices.Sorted(maps.Keys(modelForms()))
}

// spaced returns the tokens of a text, with its line feeds.
func spaced(text string) []string {
	var s strings.Builder
	last := byte(' ')
	for i := range len(text) {
		c := text[i]
		if c == '\n' || strings.IndexByte("+-*/%=!<>(),:.", c) >= 0 && !(c == '=' && strings.IndexByte("!<>", last) >= 0) {
			s.WriteByte(' ')
		}
		s.WriteByte(c)
		if c == '\n' || strings.IndexByte("+-*/%(),:.", c) >= 0 {
			s.WriteByte(' ')
		}
		last = c
	}
	return strings.FieldsFunc(s.String(), func(r rune) bool { return r == ' ' })
}

// tokens returns tokens of all kinds.
func tokens() []string {
	return append(strings.Fields(keywords+" + - * / % = != < <= > >= ( ) , : . x created end1 0 1 12"), "\n", "1\n", "end\n", "\n\n")
}

// TestTokens checks that the tests divide the forms correctly.
func TestTokens(t *testing.T) {
	for _, s := range []string{"a <= -5 # x", "send a.b(1,x) after (-5)\nstop", "x >= y != z\n"} {
		if got := strings.Join(spaced(s), " "); got != map[string]string{"a <= -5 # x": "a <= - 5 # x", "send a.b(1,x) after (-5)\nstop": "send a . b ( 1 , x ) after ( - 5 ) \n stop", "x >= y != z\n": "x >= y != z \n"}[s] {
			t.Errorf("%q", got)
		}
	}
	for _, s := range strings.Fields(keywords) {
		if !names.Keyword(s) {
			t.Error(s)
		}
	}
}

// perSample runs a test for each sample of each rule, several of them at a time.
func perSample(t *testing.T, test func(t *testing.T, g rules, rule string, l []string)) {
	for _, rule := range []string{"expr", "stmts", "model"} {
		all := samples(rule)
		const groups = 16
		for i := range groups {
			t.Run(rule+strconv.Itoa(i), func(t *testing.T) {
				t.Parallel()
				g := readGrammar()
				for j := i; j < len(all); j += groups {
					test(t, g, rule, spaced(all[j]))
				}
			})
		}
	}
}

// changed returns l without the elements from i to before j, and with x in their place.
func changed(l []string, i, j int, x ...string) string {
	return strings.Join(slices.Concat(l[:i], x, l[j:]), " ")
}

// TestEdits changes each token of each sample (P12.1): it is left out, replaced by each other one, each one is put before it, and the text ends there.
func TestEdits(t *testing.T) {
	perSample(t, func(t *testing.T, g rules, rule string, l []string) {
		for i := range len(l) + 1 {
			judge(t, g, rule, strings.Join(l[:i], " "))
			judge(t, g, rule, strings.Join(l[:i], " ")+"\n")
			judge(t, g, rule, strings.Join(l[i:], " "))
			for _, token := range tokens() {
				judge(t, g, rule, changed(l, i, i, token))
				if i < len(l) {
					judge(t, g, rule, changed(l, i, i+1, token))
				}
			}
			for j := i + 1; j <= min(i+4, len(l)); j++ {
				judge(t, g, rule, changed(l, i, j))
				judge(t, g, rule, changed(l, i, j, slices.Repeat(l[i:j], 2)...))
			}
		}
	})
}

// TestManyEdits changes several tokens of each sample, and puts samples one behind the other: the first wrong token decides.
func TestManyEdits(t *testing.T) {
	perSample(t, func(t *testing.T, g rules, rule string, l []string) {
		r := rand.New(rand.NewPCG(12, uint64(len(l))))
		others := samples(rule)
		for range 100 {
			m := slices.Clone(l)
			if r.IntN(3) == 0 {
				m = slices.Concat(m, []string{"\n"}, spaced(pick(r, others...)))
			}
			for range r.IntN(4) {
				i := r.IntN(len(m) + 1)
				j := min(len(m), i+r.IntN(3))
				m = slices.Concat(m[:i], pick(r, nil, []string{pick(r, tokens()...)}, []string{"\n"}), m[j:])
			}
			judge(t, g, rule, strings.Join(m, " "))
		}
	})
}

// TestOtherRules reads the samples of each rule as those of the other ones.
func TestOtherRules(t *testing.T) {
	perSample(t, func(t *testing.T, g rules, rule string, l []string) {
		for _, other := range []string{"expr", "stmts", "model"} {
			judge(t, g, other, strings.Join(l, " "))
		}
	})
}

// TestOperators combines each two and three operators without parentheses, with - and not before operands.
func TestOperators(t *testing.T) {
	g := readGrammar()
	signs := strings.Fields("or and = != < <= > >= + - * / %")
	before := []string{"", "- ", "not ", "- - ", "not - ", "- not "}
	for _, a := range signs {
		for _, b := range signs {
			for _, p := range before {
				for _, q := range before {
					judge(t, g, "expr", p+"x "+a+" "+q+"y "+b+" 3")
					judge(t, g, "expr", p+"1 "+a+" 2 "+b+" "+q+"y")
				}
			}
			for _, c := range signs {
				judge(t, g, "expr", "w "+a+" x "+b+" y "+c+" z")
				judge(t, g, "expr", "w "+a+" (x "+b+" y) "+c+" z")
				judge(t, g, "expr", "(w "+a+" x "+b+" y) "+c+" z")
			}
		}
	}
}

// wrong is a text with its line and its error.
type wrong struct {
	text  string
	line  int
	errno api.Errno
}

// isWrong checks that a function returns an error with its line, and nothing else.
func isWrong(t *testing.T, rule string, w wrong) {
	t.Helper()
	var line int
	var errno api.Errno
	none := false
	switch rule {
	case "model":
		var m api.Model
		m, line, errno = parse.Model(w.text)
		none = model.Same(m, api.Model{})
	case "stmts":
		var l []api.Stmt
		l, line, errno = parse.Stmts(w.text)
		none = len(l) == 0
	default:
		var e api.Expr
		e, errno = parse.Expr(w.text)
		line, none = w.line, expr.Same(e, api.Expr{})
	}
	if line != w.line || errno != w.errno || !none {
		t.Errorf("%s %.300q: line %d, error %d, nothing else %t; want line %d, error %d", rule, w.text, line, errno, none, w.line, w.errno)
	}
}

func areWrong(t *testing.T, rule string, l ...wrong) {
	t.Helper()
	for _, w := range l {
		isWrong(t, rule, w)
	}
}

// TestSyntax checks wrong lines that are counted by hand.
func TestSyntax(t *testing.T) {
	syntax := func(rule, text string, line int) {
		t.Helper()
		isWrong(t, rule, wrong{text, line, api.ErrSyntax})
	}
	for _, s := range []string{
		"", " ", "\n", "# a", "a b", "a\nb", "a +\nb", "a\n+ b", "a < b < c", "a = b = c", "a != b >= c", "not", "a not b", "a + not b", "- not a", "a and", "or a", "()", "(a", "a)", "(a))", "(-5", "( - 5 b )", "a,b", "min(a)", "min(a, b, c)", "min a, b", "dur()", "dur(a, b)", "dur a", "free(1)", "free((a))", "free(a + b)", "size(now)", "waiting()",
		"if", "end", "model", "free", "+ a", "+5", "a . b", "5 5", "5a", "1:2", "now()", "true(1)", "a(1)", "a =", "* a", "a * / b", "(\na)", "hold a", "set x = 1",
	} {
		syntax("expr", s, 0)
	}
	for s, line := range map[string]int{
		"hold dur(2)\nhold hold\n": 2, "hold": 1, "hold\n": 1, "hold\n\n# c\nstop": 1, "\n\n# c\nhold": 4, "x": 1, "stop stop": 1, "stop\nend": 2, "end": 1, "else": 1, "stop\nelse\nstop\nend": 2, "set x\n= 1": 1, "set\nx = 1": 1, "set x =\n1": 1, "set 1 = x": 1, "set if = 1": 1, "set x = 1 2": 1,
		"if a\nstop": 2, "if a\nstop\n": 3, "if a\nstop\n\n\n": 5, "if a\nstop\n# c\n ": 4, "if a stop\nend": 1, "if a\nstop end": 2, "if a\nend stop": 2, "if a\nelse stop\nend": 2, "if a\nelse\nelse\nend": 3, "if a\nelse\nstop\nelse\nend": 4, "if\nend": 1, "if a\nend\nend": 3, "if a\nif b\nend": 3, "while a\nelse\nend": 2, "while a\nwhile b\nend\n": 4, "while\na\nend": 1,
		"seize r 2": 1, "seize r prio 1": 1, "seize r 2 prio": 1, "seize r 2 preempt": 1, "seize r 2 prio 1 preempt preempt": 1, "seize r 2\nprio 1": 1, "seize r 2 prio 1\npreempt": 2,
		"put into d": 1, "put x d": 1, "put x into 1": 1, "get 1 from d": 1, "get x into d": 1, "get from d": 1, "ride": 1, "ride 1": 1, "wait q 1": 1, "signal q": 1, "signal 1": 1, "release r": 1, "observe t": 1, "level l": 1, "add c": 1, "add c =  1": 1, "stop 1": 1,
		"send a (1) after 2": 1, "send a.b after 2": 1, "send a.b () 2": 1, "send a.b ()": 1, "send a.b (,) after 2": 1, "send a.b (1,) after 2": 1, "send a.b (1 2) after 2": 1, "send .b () after 2": 1, "send a. () after 2": 1, "send a.b.c () after 2": 1, "send a.if () after 2": 1, "spawn a.b () after 2": 1, "spawn f (1 after 2": 1, "spawn f (1)\nafter 2": 1, "spawn f (1)) after 2": 1,
		"draw x from s": 1, "draw x from s table": 1, "draw x from s table 1": 1, "draw x from s table 1:": 1, "draw x from s table 1:2 3": 1, "draw x from s table 1:-2": 1, "draw x from s const": 1, "draw x from s const -1": 1, "draw x from s const 1 2": 1, "draw x from s uniform 1": 1, "draw x from s uniform 1 2 3": 1, "draw x from s sum 1 2": 1, "draw x from s sum 1 2 3 4": 1, "draw x from s geom 1": 1, "draw x from s 1": 1, "draw x s const 1": 1, "draw x from s (const 1)": 1, "draw x from s const x": 1,
	} {
		syntax("stmts", s, line)
	}
	for s, line := range map[string]int{
		"": 1, "\n": 2, "# model m\n": 2, "model m": 1, "model m\n": 2, "model": 1, "model\nm\nend": 1, "model if\nend": 1, "model m\nend end": 2, "model m\nend\nend": 3, "model m\nend\n\nstop": 4, "model m end": 1, "end": 1, "param p int = 1": 1,
		"model m\nsite a\nend": 3, "model m\nsite a\nend\n": 4, "model m\nsite a\nend\n\n# c\n": 6, "model m\nsite if\nend\nend": 2, "model m\nsite\na\nend\nend": 2, "model m\nsite a end\nend": 2, "model m\nsite a\nsite b\nend\nend\nend": 3, "model m\nqueue q\nend": 2, "model m\nsite a\nparam p int = 1\nend\nend": 3, "model m\nsite a\nlink a b 4\nend\nend": 3,
		"model m\nparam p int = true\nend": 2, "model m\nparam p bool = 1\nend": 2, "model m\nparam p time = false\nend": 2, "model m\nparam p int 1\nend": 2, "model m\nparam p int =\nend": 2, "model m\nparam p int = - - 1\nend": 2, "model m\nparam p int = (-1)\nend": 2, "model m\nparam p int = +1\nend": 2, "model m\nparam p real = 1\nend": 2, "model m\nparam int p = 1\nend": 2, "model m\nparam p bool = -true\nend": 2, "model m\nparam p int = 1 + 1\nend": 2,
		"model m\nlink a b -4\nend": 2, "model m\nlink a b\nend": 2, "model m\nlink a 4\nend": 2, "model m\nlink a.b c 4\nend": 2, "model m\nlink a b 4 5\nend": 2,
	} {
		syntax("model", s, line)
	}
	for s, line := range map[string]int{
		"var v int": 3, "var v = 1": 3, "resource r": 3, "resource r -1": 3, "resource r 2 shift": 3, "resource r 2 shift cycle 9": 3, "resource r 2 shift 0:1": 3, "resource r 2 shift 0:1 cycle": 3, "resource r 2 shift 0:1, 5:2 cycle 9": 3, "resource r 2 cycle 9": 3, "resource r 2 shift 0:1 cycle 9 shift 0:1 cycle 9": 3, "resource r 2 fault s up const 7": 3, "resource r 2 fault s down const 7 up const 7": 3, "resource r 2 fault up const 7 down const 7": 3, "resource r 2 fault s up const 7 down const 7 shift 0:1 cycle 9": 3, "resource r 2\nshift 0:1 cycle 9": 4,
		"store d fifo": 3, "store d 4": 3, "store d 4 any": 3, "store d 4 fifo lifo": 3, "store d -4 fifo": 3, "belt b 5": 3, "belt b 5 3 1": 3, "belt b 5 -3": 3, "queue": 3, "queue q p": 3, "queue 1": 3, "queue queue": 3, "level l 1": 3, "tally\nt": 3,
		"routine f\nend": 3, "routine f (\nend": 3, "routine f (x)\nend": 3, "routine f (int)\nend": 3, "routine f (x int y int)\nend": 3, "routine f (x int,)\nend": 3, "routine f () stop\nend": 3, "routine f ()\nlocal x\nend": 4, "routine f ()\nlocal x int y int\nend": 4, "routine f ()\nstop\nlocal x int\nend": 5, "routine f ()\nelse\nend": 4, "routine f ()\nqueue q\nend": 4, "routine f ()\nend end": 4, "local x int": 3,
		"start f at 3": 3, "start f ()": 3, "start f () at": 3, "start f () at -3": 3, "start f () at 3 every 2": 3, "start f () at 3 until 9": 3, "start f () at 3 until 9 every 2": 3, "start f (1,) at 3": 3, "start f ((1)) at 3": 3, "start f (x) at 3": 3, "start f (-true) at 3": 3, "start f (1 + 1) at 3": 3, "start f () every 2 until 9": 3,
		"conserve k : = 0": 3, "conserve k : - = 0": 3, "conserve k : + created f = 0": 3, "conserve k : - - created f = 0": 3, "conserve k created f = 0": 3, "conserve k : created = 0": 3, "conserve k : 2 created f = 0": 3, "conserve k : 2 * 3 * created f = 0": 3, "conserve k : -2 * created f": 3, "conserve k : created f = - - 1": 3, "conserve k : created f ended f = 0": 3, "conserve k : created f + = 0": 3, "conserve k : created * 2 f = 0": 3, "conserve k : created f = true": 3, "conserve k : created f * 2 = 0": 3,
	} {
		syntax("model", "model m\nsite a\n"+s+"\nend\nend", line)
	}
}

// TestNames puts each keyword, and names that begin with it, where a name is required.
func TestNames(t *testing.T) {
	g := readGrammar()
	places := map[string][]string{
		"expr": {"@", "free(@)", "1 + @ * 2", "min(@, @)", "dur(@)"},
		"stmts": {"set @ = 1", "draw @ from s const 1", "draw x from @ const 1", "seize @ 1 prio 2", "release @ 1", "put 1 into @", "get @ from d", "get x from @", "ride @", "wait @", "signal @ 1", "send @.f () after 1", "send a.@ () after 1", "spawn @ () after 1", "observe @ 1", "level @ 1", "add @ 1",
			"if a\nelse\nride @\nend"},
		"model": {"model @\nsite a\nend\nend", "model m\nparam @ int = 1\nsite a\nend\nend", "model m\nsite @\nend\nend", "model m\nsite a\nend\nsite b\nend\nlink @ b 1\nend", "model m\nsite a\nend\nsite b\nend\nlink a @ 1\nend"},
	}
	for _, s := range []string{"var @ int = 1", "resource @ 1", "resource r 1 fault @ up const 1 down const 1", "store @ 1 fifo", "belt @ 1 1", "queue @", "stream @", "tally @", "level @", "count @", "routine @ ()\nend", "routine f (@ int)\nend", "routine f ()\nlocal @ int\nend", "start @ () at 1", "routine f ()\nend\nconserve @ : created f = 0", "conserve k : @ f = 0", "routine f ()\nend\nconserve k : created @ = 0"} {
		places["model"] = append(places["model"], "model m\nsite a\n"+s+"\nend\nend")
	}
	for rule, l := range places {
		for _, place := range l {
			for _, keyword := range strings.Fields(keywords) {
				for _, name := range []string{keyword, keyword + "s", keyword + "_", keyword + "0", "x" + keyword, keyword + "_" + keyword} {
					judge(t, g, rule, strings.ReplaceAll(place, "@", name))
				}
			}
			for _, name := range []string{"f", "a", "b", "x", strings.Repeat("x", 24), strings.Repeat("x", 25)} {
				judge(t, g, rule, strings.ReplaceAll(place, "@", name))
			}
		}
	}
}

// TestNumbers puts integers where a number is required, and where a minus sign can stand before it.
func TestNumbers(t *testing.T) {
	g := readGrammar()
	numbers := []string{"0", "1", "9", "1000", "1001", "1000000000", "1000000001", "1000000000000", "1000000000001", "00", "01", "99999999999999999999", "-0", "-1", "- 7", "-1000000000000", "-1000000000001", "- -1", "--1", "+1", "(1)", "(-1)", "true", "false", "x", "1.5", "1 1", "", "\n", "1:1"}
	places := []string{"var v int = @", "var v time = @", "var v bool = @", "resource r @", "resource r 1 shift @:1 cycle 9", "resource r 1 shift 0:@ cycle 9", "resource r 1 shift 0:1 cycle @", "resource r 1 fault s up const @ down const 1\nstream s", "resource r 1 fault s up const 1 down geom @ 2\nstream s", "store d @ fifo", "belt b @ 1", "belt b 1 @",
		"start f (@) at 0\nroutine f (x int)\nend", "start f (@) at 0\nroutine f (x bool)\nend", "start f (@) at 0\nroutine f (x time)\nend", "start f () at @\nroutine f ()\nend", "start f () at 0 every @ until 1\nroutine f ()\nend", "start f () at 0 every 1 until @\nroutine f ()\nend",
		"routine f ()\nend\nconserve k : created f = @", "routine f ()\nend\nconserve k : @ * created f = 1", "routine f ()\nend\nconserve k : - @ * created f = 1", "routine f ()\nend\nconserve k : created f + @ * created f = 1",
		"routine f ()\ndraw x from s uniform @ 9\nend", "routine f ()\ndraw x from s table 1:1 @:2\nend", "routine f ()\ndraw x from s table 1:1 2:@\nend", "routine f ()\ndraw x from s sum @ 1 2\nend", "routine f ()\ndraw x from s geom 1 @\nend", "routine f ()\nhold @\nend", "routine f ()\nsignal q @\nend"}
	for _, n := range numbers {
		for _, place := range places {
			judge(t, g, "model", "model m\nsite a\n"+strings.ReplaceAll(place, "@", n)+"\nend\nend")
		}
		for _, place := range []string{"model m\nparam p int = @\nsite a\nend\nend", "model m\nparam p time = @\nsite a\nend\nend", "model m\nparam p bool = @\nsite a\nend\nend", "model m\nsite a\nend\nsite b\nend\nlink a b @\nend"} {
			judge(t, g, "model", strings.ReplaceAll(place, "@", n))
		}
		judge(t, g, "expr", n)
		judge(t, g, "expr", "("+n+")")
		judge(t, g, "expr", "dur("+n+")")
		judge(t, g, "stmts", "hold "+n)
	}
}

// TestOrder checks that errors of tokens come before errors of syntax, and these before those of Check.
func TestOrder(t *testing.T) {
	long := strings.Repeat(" ", maxText+1)
	areWrong(t, "expr",
		wrong{"a & b", 0, api.ErrForm}, wrong{"if\n01", 0, api.ErrForm}, wrong{"a b\n\n$", 0, api.ErrForm}, wrong{"(\n$" + long, 0, api.ErrLong}, wrong{"1000000000001", 0, api.ErrForm}, wrong{"a ! b", 0, api.ErrForm}, wrong{"A", 0, api.ErrForm}, wrong{"é", 0, api.ErrForm}, wrong{"a\r\n", 0, api.ErrForm}, wrong{"\x00", 0, api.ErrForm}, wrong{"_a", 0, api.ErrForm},
		wrong{strings.Repeat("x", 25) + " +", 0, api.ErrSyntax}, wrong{strings.Repeat("x", 25), 0, api.ErrName}, wrong{strings.Repeat("not ", 12) + "a", 0, api.ErrDeep}, wrong{strings.Repeat("not ", 12) + "a b", 0, api.ErrSyntax}, wrong{strings.Repeat("1 + ", 30) + "a", 0, api.ErrLong}, wrong{strings.Repeat("1 + ", 30) + "a +", 0, api.ErrSyntax},
		wrong{strings.Repeat("not ", 60) + "a", 0, api.ErrLong}, wrong{"free(" + strings.Repeat("x", 25) + ")", 0, api.ErrName},
	)
	areWrong(t, "stmts",
		wrong{"stop\nset x = $", 2, api.ErrForm}, wrong{"hold hold\nset x = $", 2, api.ErrForm}, wrong{"hold hold\n\n\n007\n$", 4, api.ErrForm}, wrong{"$ $\nhold", 1, api.ErrForm}, wrong{"if a\n$", 2, api.ErrForm}, wrong{"hold hold\n$" + long, 0, api.ErrLong},
		wrong{"hold " + strings.Repeat("x", 25), 0, api.ErrName}, wrong{"hold " + strings.Repeat("x", 25) + "\nhold", 2, api.ErrSyntax}, wrong{"draw x from s table 1:0", 0, api.ErrRange}, wrong{"draw x from s table 1:0\nend", 2, api.ErrSyntax}, wrong{"draw x from s table" + strings.Repeat(" 1:1", 21), 0, api.ErrLong}, wrong{"draw x from s uniform 3 2", 0, api.ErrRange},
		wrong{strings.Repeat("stop\n", 201), 0, api.ErrLong}, wrong{strings.Repeat("stop\n", 201) + "hold", 202, api.ErrSyntax}, wrong{strings.Repeat("while a\n", 13) + strings.Repeat("end\n", 13), 0, api.ErrDeep}, wrong{strings.Repeat("while a\n", 13) + strings.Repeat("end\n", 14), 27, api.ErrSyntax},
		wrong{"spawn f (1, 2, 3, 4, 5, 6, 7) after 1", 0, api.ErrLong}, wrong{"send a." + strings.Repeat("x", 25) + " () after 1", 0, api.ErrName}, wrong{"hold " + strings.Repeat("1 + ", 30) + "a", 0, api.ErrLong}, wrong{"if " + strings.Repeat("- ", 12) + "a\nend", 0, api.ErrDeep},
	)
	areWrong(t, "model",
		wrong{"model m\n?\nend", 2, api.ErrForm}, wrong{"model\nm\n?\nend", 3, api.ErrForm}, wrong{"end\n\"", 2, api.ErrForm}, wrong{"model m\nend" + long, 0, api.ErrLong}, wrong{"$" + long, 0, api.ErrLong},
		wrong{"model m\nend", 0, api.ErrShort}, wrong{"model m\nend\nend", 3, api.ErrSyntax}, wrong{"model " + strings.Repeat("x", 25) + "\nend", 0, api.ErrName}, wrong{"model m\nsite a\nend\nsite a\nend\nend", 0, api.ErrTwice}, wrong{"model m\nsite a\nqueue q\ntally q\nend\nend", 0, api.ErrTwice}, wrong{"model m\nlink a b 4\nsite a\nend\nend", 0, api.ErrNone}, wrong{"model m\nlink a a 4\nsite a\nend\nend", 0, api.ErrArg}, wrong{"model m\nlink a b 0\nsite a\nend\nsite b\nend\nend", 0, api.ErrRange},
		wrong{"model m\nparam p time = -1\nsite a\nend\nend", 0, api.ErrRange}, wrong{"model m\nsite a\nbelt b 0 1\nend\nend", 0, api.ErrRange}, wrong{"model m\nsite a\nconserve k : made f = 0\nend\nend", 0, api.ErrArg}, wrong{"model m\nsite a\nconserve k : created f = 0\nend\nend", 0, api.ErrNone}, wrong{"model m\nsite a\nstart f () at 0\nend\nend", 0, api.ErrNone}, wrong{"model m\nsite a\nroutine f (x int)\nend\nstart f () at 0\nend\nend", 0, api.ErrForm}, wrong{"model m\nsite a\nroutine f ()\nend\nstart f () at 0 every 0 until 5\nend\nend", 0, api.ErrRange},
		wrong{"model m\nsite a\nresource r 1 shift 5:1 5:2 cycle 9\nend\nend", 0, api.ErrOrder}, wrong{"model m\nsite a\nresource r 1 shift" + strings.Repeat(" 1:1", 21) + " cycle 9\nend\nend", 0, api.ErrLong}, wrong{"model m\nsite a\nresource r 1 fault s up const 1 down const 1\nend\nend", 0, api.ErrNone}, wrong{"model m\nsite a\nroutine f ()\nspawn f (1, 2, 3, 4, 5, 6, 7) after 1\nend\nend\nend", 0, api.ErrLong}, wrong{"model m\n" + strings.Repeat("param p int = 1\n", 33) + "site a\nend\nend", 0, api.ErrLong}, wrong{"model m\n" + strings.Repeat("site a\nend\n", 17) + "end", 0, api.ErrLong}, wrong{"model m\nsite a\n" + strings.Repeat("queue q\n", 33) + "end\nend", 0, api.ErrLong},
		wrong{"model m\nsite a\n" + strings.Repeat("queue q\n", 33) + "end\nend\nqueue q", 38, api.ErrSyntax},
	)
}

// TestLength checks texts of MaxText bytes, and longer ones.
func TestLength(t *testing.T) {
	fill := func(s, with string, n int) string { return s + strings.Repeat(with, n-len(s)) }
	body := "model m\nsite a\nend\nend\n"
	for _, with := range []string{" ", "\n", "#", "\t"} {
		if m, line, errno := parse.Model(fill(body, with, maxText)); m.Name != "m" || len(m.Sites) != 1 || line != 0 || errno != api.OK {
			t.Errorf("%q: %v %d %d", with, m, line, errno)
		}
		if l, line, errno := parse.Stmts(fill("stop\n", with, maxText)); !stmt.Same(l, []api.Stmt{{Op: api.SEnd}}) || line != 0 || errno != api.OK {
			t.Errorf("%q: %v %d %d", with, l, line, errno)
		}
		if l, line, errno := parse.Stmts(strings.Repeat(with, maxText)); len(l) > 0 || line != 0 || errno != api.OK {
			t.Errorf("%q: %v %d %d", with, l, line, errno)
		}
		if e, errno := parse.Expr(fill("a\n", with, maxText)); !expr.Same(e, word("a")) || errno != api.OK {
			t.Errorf("%q: %v %d", with, e, errno)
		}
		for _, rule := range []string{"expr", "stmts", "model"} {
			for _, s := range []string{"", "a\n", "stop\n", body} {
				isWrong(t, rule, wrong{fill(s, with, maxText+1), 0, api.ErrLong})
				isWrong(t, rule, wrong{fill(s, with, 50*maxText), 0, api.ErrLong})
			}
		}
	}
	areWrong(t, "model", wrong{strings.Repeat("\n", maxText), maxText + 1, api.ErrSyntax}, wrong{fill("model m\n", "\n", maxText), maxText - 6, api.ErrSyntax}, wrong{fill("", " ", maxText), 1, api.ErrSyntax})
	areWrong(t, "expr", wrong{strings.Repeat("\n", maxText), 0, api.ErrSyntax})
}

// nested returns n times before, s, and n times behind.
func nested(before string, n int, s, behind string) string {
	return strings.Repeat(before, n) + s + strings.Repeat(behind, n)
}

// TestDeep checks texts that are nested as deeply as MaxText bytes can be.
func TestDeep(t *testing.T) {
	for text, want := range map[string]api.Expr{
		nested("(", 9999, "a", ")"): word("a"), nested("(", 9999, "55", ")"): number(55), nested("(", 9998, "(-1)", ")"): number(-1), nested("(", 4999, "a + b", ")"): of(api.XAdd, word("a"), word("b")), nested("(a) + ", 11, "a", ""): of(api.XAdd, leftSum(11), word("a")), nested("((((a)))) * ", 11, "a", ""): of(api.XMul, leftProduct(11), word("a")),
	} {
		if e, errno := parse.Expr(text); !expr.Same(e, want) || errno != api.OK {
			t.Errorf("%.50q: %d", text, errno)
		}
	}
	areWrong(t, "expr",
		wrong{strings.Repeat("(", maxText), 0, api.ErrSyntax}, wrong{nested("(", 9999, "a", ")") + ")", 0, api.ErrSyntax}, wrong{nested("(", 9999, "", ")"), 0, api.ErrSyntax}, wrong{nested("(", 10000, "a", ")"), 0, api.ErrLong}, wrong{"(" + nested("(", 9998, "a", ")"), 0, api.ErrSyntax},
		wrong{strings.Repeat("-", maxText), 0, api.ErrSyntax}, wrong{strings.Repeat("-", maxText-1) + "a", 0, api.ErrLong}, wrong{strings.Repeat("not ", maxText/4), 0, api.ErrSyntax}, wrong{strings.Repeat("not ", maxText/4-1) + "a", 0, api.ErrLong}, wrong{nested("dur(", 3999, "a", ")"), 0, api.ErrLong}, wrong{strings.Repeat("dur(", maxText/4), 0, api.ErrSyntax},
		wrong{nested("min(", 2857, "a", ",a)"), 0, api.ErrLong}, wrong{strings.Repeat("min(", maxText/4), 0, api.ErrSyntax}, wrong{strings.Repeat("a+", maxText/2-1) + "a", 0, api.ErrLong}, wrong{strings.Repeat("a+", maxText/2), 0, api.ErrSyntax}, wrong{nested("(a+", 4999, "a", ")"), 0, api.ErrLong}, wrong{nested("a<(", 4999, "a", ")"), 0, api.ErrLong}, wrong{strings.Repeat("-(", maxText/2), 0, api.ErrSyntax}, wrong{strings.Repeat("a or ", maxText/5-1) + "a", 0, api.ErrLong},
	)
	areWrong(t, "stmts",
		wrong{strings.Repeat("if a\n", maxText/5), maxText/5 + 1, api.ErrSyntax}, wrong{nested("if a\n", 2222, "", "end\n"), 0, api.ErrLong}, wrong{nested("if a\n", 2221, "end\n", "end\n"), 4443, api.ErrSyntax}, wrong{nested("if a\nelse\n", 1333, "", "end\n"), 0, api.ErrLong}, wrong{strings.Repeat("if a\nelse\n", maxText/10), maxText/5 + 1, api.ErrSyntax}, wrong{nested("while a\n", 1666, "", "end\n"), 0, api.ErrLong}, wrong{strings.Repeat("while a\n", maxText/8), maxText/8 + 1, api.ErrSyntax},
		wrong{strings.Repeat("stop\n", maxText/5), 0, api.ErrLong}, wrong{"hold " + strings.Repeat("(", maxText-5), 1, api.ErrSyntax}, wrong{"spawn f (" + strings.Repeat("1,", 9000) + "1) after 1", 0, api.ErrLong}, wrong{"draw x from s table " + strings.Repeat("1:1 ", 4900), 0, api.ErrLong},
	)
	areWrong(t, "model",
		wrong{"model m\nsite a\nroutine f ()\n" + nested("if a\n", 2210, "", "end\n") + "end\nend\nend", 0, api.ErrLong}, wrong{"model m\nsite a\nroutine f ()\n" + strings.Repeat("if a\n", 3990), 3994, api.ErrSyntax}, wrong{"model m\n" + strings.Repeat("site a\nend\n", 1800) + "end", 0, api.ErrLong}, wrong{"model m\nsite a\nroutine f (" + strings.Repeat("x int,", 3300) + "x int)\nend\nend\nend", 0, api.ErrLong},
		wrong{"model m\nsite a\nroutine f ()\nend\nconserve k : " + strings.Repeat("created f+", 1990) + "created f = 0\nend\nend", 0, api.ErrLong},
	)
}

// leftSum and leftProduct combine n names from the left.
func leftSum(n int) api.Expr {
	if n == 1 {
		return word("a")
	}
	return of(api.XAdd, leftSum(n-1), word("a"))
}

func leftProduct(n int) api.Expr {
	if n == 1 {
		return word("a")
	}
	return of(api.XMul, leftProduct(n-1), word("a"))
}

// TestSoup reads tokens and bytes that stand anywhere.
func TestSoup(t *testing.T) {
	g := readGrammar()
	r := rand.New(rand.NewPCG(12, 4))
	all := tokens()
	for i := range 30000 {
		var l []string
		for range r.IntN(12) {
			l = append(l, pick(r, all...))
		}
		rule := []string{"expr", "stmts", "model"}[i%3]
		start := pick(r, "", "model m\n", "model m\nsite a\n", "model m\nsite a\nroutine f ()\n", "set x = ", "(")
		judge(t, g, rule, start+strings.Join(l, " "))
		b := []byte(start + strings.Join(l, " "))
		for range r.IntN(3) {
			b = append(b, byte(r.IntN(256)))
			b[r.IntN(len(b))] = byte(r.IntN(256))
		}
		judge(t, g, rule, string(b))
	}
}
