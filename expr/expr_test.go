package expr_test

import (
	"fmt"
	"maps"
	"math"
	"math/rand/v2"
	"regexp"
	"slices"
	"strings"
	"testing"

	"simulator/api"
	"simulator/expr"
)

// The limits of the document, and not those of the program.
const (
	maxInt   = 1000000000000
	maxNodes = 60
	maxNest  = 12
)

func word(s string) api.Expr                          { return api.Expr{Op: api.XName, Name: s} }
func number(n int) api.Expr                           { return api.Expr{Op: api.XInt, N: n} }
func slot(n int) api.Expr                             { return api.Expr{Op: api.XSlot, N: n} }
func now() api.Expr                                   { return api.Expr{Op: api.XNow} }
func of(op api.ExprOp, kids ...api.Expr) api.Expr     { return api.Expr{Op: op, Kids: kids} }
func ask(op api.ExprOp, s string) api.Expr            { return api.Expr{Op: op, Name: s} }
func list(l ...api.Expr) []api.Expr                   { return l }
func names(l ...string) []string                      { return l }
func pick[T any](r *rand.Rand, l []T) T               { return l[r.IntN(len(l))] }
func set(e api.Expr, change func(*api.Expr)) api.Expr { change(&e); return e }

// rule is what the chapter's table says of a form: the number of Kids, whether it has a name, and the numbers from low to high.
type rule struct {
	kids      int
	name      bool
	low, high int
}

// The rows of the chapter's table.
const (
	unary  = "5 6 7 8"
	binary = "9 10 11 12 13 14 15 16 17 18 19 20 21"
	asking = "22 23 24"
)

// ops has the forms of a row.
func ops(row string) []api.ExprOp {
	var l []api.ExprOp
	for _, s := range strings.Fields(row) {
		var op api.ExprOp
		fmt.Sscan(s, &op)
		l = append(l, op)
	}
	return l
}

// oracle tells what the chapter says of expressions: rules for source texts and for compiled expressions.
type oracle struct{ source, code map[api.ExprOp]rule }

func newOracle() oracle {
	both := map[api.ExprOp]rule{api.XInt: {low: -maxInt, high: maxInt}, api.XBool: {high: 1}, api.XNow: {}}
	for _, op := range ops(unary) {
		both[op] = rule{kids: 1}
	}
	for _, op := range ops(binary) {
		both[op] = rule{kids: 2}
	}
	o := oracle{maps.Clone(both), both}
	o.source[api.XName] = rule{name: true}
	for _, op := range ops(asking) {
		o.source[op] = rule{name: true}
		o.code[op] = rule{high: 63}
	}
	o.code[api.XSlot] = rule{high: 15}
	o.code[api.XVar] = rule{high: 31}
	return o
}

// shape is what a valid name looks like, but for the keywords, which look like names too.
var shape = regexp.MustCompile(`\A[a-z][a-z0-9_]{0,23}\z`)

// validName is the definition of a valid name, with the keywords that the tests use.
func validName(s string) bool {
	return shape.MatchString(s) && !slices.Contains([]string{"if", "hold", "while", "free", "now", "true"}, s)
}

// node is the definition of the check of a node.
func node(rules map[api.ExprOp]rule, e api.Expr) api.Errno {
	r, ok := rules[e.Op]
	if !ok || len(e.Kids) != r.kids || e.Name != "" && !r.name {
		return api.ErrArg
	}
	if e.N != 0 && r.low == 0 && r.high == 0 {
		return api.ErrArg
	}
	if e.N < r.low || e.N > r.high {
		return api.ErrRange
	}
	if r.name && !validName(e.Name) {
		return api.ErrName
	}
	return api.OK
}

// place is a node with its level.
type place struct {
	node  api.Expr
	level int
}

// flat has the nodes of an expression in order, with their levels; it does without recursion.
func flat(e api.Expr) []place {
	var all []place
	for todo := []place{{e, 1}}; len(todo) > 0; {
		last := todo[len(todo)-1]
		todo = todo[:len(todo)-1]
		all = append(all, last)
		for _, kid := range slices.Backward(last.node.Kids) {
			todo = append(todo, place{kid, last.level + 1})
		}
	}
	return all
}

// depth is the definition of Depth.
func depth(all []place) int {
	most := 0
	for _, p := range all {
		most = max(most, p.level)
	}
	return most
}

// check is the definition of Check and of CheckCode.
func check(rules map[api.ExprOp]rule, e api.Expr) api.Errno {
	all := flat(e)
	if len(all) > maxNodes {
		return api.ErrLong
	}
	if depth(all) > maxNest {
		return api.ErrDeep
	}
	for _, p := range all {
		if errno := node(rules, p.node); errno != api.OK {
			return errno
		}
	}
	return api.OK
}

// mentioned is the definition of Names.
func (o oracle) mentioned(e api.Expr) []string {
	if check(o.source, e) != api.OK {
		return nil
	}
	found := map[string]bool{}
	for _, p := range flat(e) {
		switch p.node.Op {
		case api.XName, api.XFree, api.XSize, api.XWaiting:
			found[p.node.Name] = true
		}
	}
	return slices.Sorted(maps.Keys(found))
}

// show is a text that only equal expressions have.
func show(e api.Expr) string {
	var b strings.Builder
	var write func(e api.Expr)
	write = func(e api.Expr) {
		fmt.Fprintf(&b, "[%d %q %d", e.Op, e.Name, e.N)
		for _, kid := range e.Kids {
			b.WriteByte(' ')
			write(kid)
		}
		b.WriteByte(']')
	}
	write(e)
	return b.String()
}

// brief is a text that is short enough for a message.
func brief(e api.Expr) string {
	if expr.Nodes(e) > 100 {
		return fmt.Sprintf("an expression of %d nodes", expr.Nodes(e))
	}
	return show(e)
}

// copied is an expression in new memory.
func copied(e api.Expr) api.Expr {
	kids := make([]api.Expr, 0, len(e.Kids))
	for _, kid := range e.Kids {
		kids = append(kids, copied(kid))
	}
	e.Kids = kids
	return e
}

// testErrors compares the results of both checks with those that are wanted.
func testErrors(t *testing.T, e api.Expr, source, code api.Errno) {
	t.Helper()
	if got := expr.Check(e); got != source {
		t.Errorf("Check(%s) = %v, not %v", brief(e), got, source)
	}
	if got := expr.CheckCode(e); got != code {
		t.Errorf("CheckCode(%s) = %v, not %v", brief(e), got, code)
	}
}

// test compares all that is promised of one expression with the definitions.
func (o oracle) test(t *testing.T, e api.Expr) {
	t.Helper()
	if got, want := expr.Check(e), check(o.source, e); got != want {
		t.Fatalf("Check(%s) = %v, not %v", brief(e), got, want)
	}
	if got, want := expr.CheckCode(e), check(o.code, e); got != want {
		t.Fatalf("CheckCode(%s) = %v, not %v", brief(e), got, want)
	}
	all := flat(e)
	if got := expr.Nodes(e); got != len(all) {
		t.Fatalf("Nodes(%s) = %d, not %d", brief(e), got, len(all))
	}
	if got, want := expr.Depth(e), depth(all); got != want {
		t.Fatalf("Depth(%s) = %d, not %d", brief(e), got, want)
	}
	if got, want := expr.Names(e), o.mentioned(e); !slices.Equal(got, want) {
		t.Fatalf("Names(%s) = %q, not %q", brief(e), got, want)
	}
	if !expr.Same(e, copied(e)) {
		t.Fatalf("%s is not equal to its copy", brief(e))
	}
}

// chain has n nodes of the form XNot around e.
func chain(n int, e api.Expr) api.Expr {
	for range n {
		e = of(api.XNot, e)
	}
	return e
}

// full is a binary tree of so many levels.
func full(levels int, leaf api.Expr) api.Expr {
	for range levels - 1 {
		leaf = of(api.XAdd, leaf, leaf)
	}
	return leaf
}

// sized is an accepted expression of n nodes and few levels: a list of numbers becomes sums, and, if n is even, one number has a minus sign.
func sized(n int) api.Expr {
	var row []api.Expr
	for i := range (n + 1) / 2 {
		row = append(row, number(i))
	}
	if n%2 == 0 {
		row[0] = of(api.XNeg, row[0])
	}
	for len(row) > 1 {
		row = append(row[2:], of(api.XAdd, row[0], row[1]))
	}
	return row[0]
}

// P9.1

func TestExamplesOfCheck(t *testing.T) {
	for _, c := range []struct {
		e            api.Expr
		source, code api.Errno
	}{
		{api.Expr{}, api.ErrArg, api.ErrArg},
		{now(), api.OK, api.OK},
		{api.Expr{Op: api.XNow, N: 1}, api.ErrArg, api.ErrArg},
		{number(0), api.OK, api.OK},
		{number(maxInt), api.OK, api.OK},
		{number(-maxInt), api.OK, api.OK},
		{number(maxInt + 1), api.ErrRange, api.ErrRange},
		{number(-maxInt - 1), api.ErrRange, api.ErrRange},
		{number(math.MaxInt), api.ErrRange, api.ErrRange},
		{number(math.MinInt), api.ErrRange, api.ErrRange},
		{api.Expr{Op: api.XBool}, api.OK, api.OK},
		{api.Expr{Op: api.XBool, N: 1}, api.OK, api.OK},
		{api.Expr{Op: api.XBool, N: 2}, api.ErrRange, api.ErrRange},
		{api.Expr{Op: api.XBool, N: -1}, api.ErrRange, api.ErrRange},
		{word("a"), api.OK, api.ErrArg},
		{word("if"), api.ErrName, api.ErrArg},
		{word(""), api.ErrName, api.ErrArg},
		{slot(0), api.ErrArg, api.OK},
		{slot(15), api.ErrArg, api.OK},
		{slot(16), api.ErrArg, api.ErrRange},
		{slot(-1), api.ErrArg, api.ErrRange},
		{api.Expr{Op: api.XVar, N: 0}, api.ErrArg, api.OK},
		{api.Expr{Op: api.XVar, N: 31}, api.ErrArg, api.OK},
		{api.Expr{Op: api.XVar, N: 32}, api.ErrArg, api.ErrRange},
		{api.Expr{Op: api.XVar, N: -1}, api.ErrArg, api.ErrRange},
		{of(api.XAdd, now()), api.ErrArg, api.ErrArg},
		{of(api.XAdd, word("a"), number(2)), api.OK, api.ErrArg},
		{of(api.XAdd, slot(1), number(2)), api.ErrArg, api.OK},
		{of(api.XAdd, number(1), number(2)), api.OK, api.OK},
		{of(api.XAdd, number(1), number(2), number(3)), api.ErrArg, api.ErrArg},
		// Types do not matter here.
		{of(api.XNot, of(api.XDur, of(api.XTicks, number(5)))), api.OK, api.OK},
	} {
		testErrors(t, c.e, c.source, c.code)
	}
	for _, op := range ops(asking) {
		for _, c := range []struct {
			e            api.Expr
			source, code api.Errno
		}{
			{ask(op, "r"), api.OK, api.ErrArg},
			{ask(op, "if"), api.ErrName, api.ErrArg},
			{ask(op, ""), api.ErrName, api.OK},
			{api.Expr{Op: op, N: 63}, api.ErrArg, api.OK},
			{api.Expr{Op: op, N: 64}, api.ErrArg, api.ErrRange},
			{api.Expr{Op: op, N: -1}, api.ErrArg, api.ErrRange},
			{api.Expr{Op: op, N: 1, Name: "r"}, api.ErrArg, api.ErrArg},
			{api.Expr{Op: op, N: 64, Name: "r"}, api.ErrArg, api.ErrArg},
		} {
			testErrors(t, c.e, c.source, c.code)
		}
	}
}

// someNames has names that are accepted, and texts that are none.
func someNames() []string {
	return []string{"a", "z_9", strings.Repeat("a", 24), "", "if", "hold", "while", "free", "now", "true", "A", "9", "_", "a b", "a.b", "a\x00", "\xff", "ü", strings.Repeat("a", 25), strings.Repeat("a", 1<<16)}
}

// someNumbers has the bounds of all forms, and the numbers beside them.
func someNumbers() []int {
	l := []int{math.MinInt, math.MinInt + 1, math.MaxInt - 1, math.MaxInt, 1 << 32, 1<<32 + 1, -1 << 32}
	for _, n := range []int{0, 2, 6, 12, 16, 24, 32, 60, 64, 200, maxInt, -maxInt} {
		l = append(l, n-2, n-1, n, n+1, n+2)
	}
	return l
}

// someOps has all forms, and numbers that are none.
func someOps() []api.ExprOp {
	l := []api.ExprOp{math.MinInt, -1 << 32, math.MaxInt, 1 << 32, 1<<32 + 1, 1<<32 + 3, 256 + 1, 256 + 4, 64, 100}
	for op := api.ExprOp(-30); op <= 60; op++ {
		l = append(l, op)
	}
	return l
}

func TestEachFormWithEachField(t *testing.T) {
	o := newOracle()
	source, code := 0, 0
	for _, op := range someOps() {
		for _, name := range someNames() {
			for _, n := range someNumbers() {
				for kids := range 5 {
					e := api.Expr{Op: op, Name: name, N: n, Kids: list(now(), number(1), now(), number(2))[:kids]}
					if got, want := expr.Check(e), check(o.source, e); got != want {
						t.Fatalf("Check(%s) = %v, not %v", show(e), got, want)
					}
					if got, want := expr.CheckCode(e), check(o.code, e); got != want {
						t.Fatalf("CheckCode(%s) = %v, not %v", show(e), got, want)
					}
					if expr.Check(e) == api.OK {
						source++
					}
					if expr.CheckCode(e) == api.OK {
						code++
					}
				}
			}
		}
	}
	// Numbers are some more than once: these are how many of them each form permits.
	count := func(low, high int) int {
		all := 0
		for _, n := range someNumbers() {
			if n >= low && n <= high {
				all++
			}
		}
		return all
	}
	zero := count(0, 0)
	if want := count(-maxInt, maxInt) + count(0, 1) + zero*(1+4+13) + zero*4*3; source != want {
		t.Errorf("%d expressions of source texts are accepted, not %d", source, want)
	}
	if want := count(-maxInt, maxInt) + count(0, 1) + zero*(1+4+13) + 3*count(0, 63) + count(0, 15) + count(0, 31); code != want {
		t.Errorf("%d compiled expressions are accepted, not %d", code, want)
	}
}

func TestEachFormAloneAndBelowAnother(t *testing.T) {
	o := newOracle()
	for _, op := range someOps() {
		for _, name := range names("", "a", "if") {
			for _, n := range []int{-1, 0, 1, 2, 15, 16, 31, 32, 63, 64} {
				for kids := range 4 {
					e := api.Expr{Op: op, Name: name, N: n, Kids: list(number(1), now(), number(2))[:kids]}
					o.test(t, e)
					o.test(t, of(api.XNot, e))
					o.test(t, of(api.XAdd, e, now()))
					o.test(t, of(api.XMax, now(), of(api.XNeg, e)))
				}
			}
		}
	}
}

func TestEachNumberOfKids(t *testing.T) {
	o := newOracle()
	for op := api.ExprOp(0); op <= 27; op++ {
		for kids := range 70 {
			e := api.Expr{Op: op}
			for range kids {
				e.Kids = append(e.Kids, number(7))
			}
			if op == api.XName || op >= api.XFree && op <= api.XWaiting {
				o.test(t, set(e, func(e *api.Expr) { e.Name = "a" }))
			}
			o.test(t, e)
		}
	}
}

// faults has expressions with each error in source texts and in compiled expressions, and accepted ones.
func faults() []api.Expr {
	return list(
		number(1), word("a"), ask(api.XFree, "r"), slot(3), api.Expr{Op: api.XWaiting, N: 63}, number(maxInt+1), slot(16), api.Expr{Op: api.XVar, N: -1}, api.Expr{Op: api.XBool, N: 2},
		word("if"), word(""), ask(api.XSize, "A"), api.Expr{}, api.Expr{Op: -4}, api.Expr{Op: 27}, api.Expr{Op: api.XNow, N: 1}, api.Expr{Op: api.XInt, Name: "if"}, of(api.XAdd, now()), of(api.XNeg), of(api.XInt, now()),
	)
}

func TestFirstErrorAmongKidsFromTheLeft(t *testing.T) {
	o := newOracle()
	for _, a := range faults() {
		for _, b := range faults() {
			o.test(t, of(api.XAdd, a, b))
			o.test(t, of(api.XMin, of(api.XNeg, a), b))
			o.test(t, of(api.XMin, a, of(api.XNeg, b)))
			o.test(t, of(api.XOr, of(api.XSub, number(1), a), of(api.XSub, b, number(2))))
			for _, c := range faults() {
				o.test(t, of(api.XAnd, of(api.XLt, a, b), c))
				o.test(t, of(api.XAnd, a, of(api.XLt, b, c)))
			}
		}
	}
}

func TestNodesAreCheckedBeforeTheirKids(t *testing.T) {
	o := newOracle()
	for _, a := range faults() {
		for _, b := range faults() {
			for kids := range 4 {
				// a with faulty Kids: it has mostly too many of them.
				e := a
				e.Kids = slices.Repeat(list(b), kids)
				o.test(t, e)
				o.test(t, of(api.XNot, e))
				o.test(t, of(api.XEq, b, e))
			}
		}
	}
	for _, c := range []struct {
		e            api.Expr
		source, code api.Errno
	}{
		{of(api.XAdd, word("if")), api.ErrArg, api.ErrArg},
		{of(api.XAdd, word("if"), number(maxInt+1)), api.ErrName, api.ErrArg},
		{of(api.XAdd, number(maxInt+1), word("if")), api.ErrRange, api.ErrRange},
		{of(api.XAdd, number(maxInt+1), api.Expr{}), api.ErrRange, api.ErrRange},
		{of(api.XAdd, api.Expr{}, number(maxInt+1)), api.ErrArg, api.ErrArg},
		{of(api.XAdd, of(api.XNeg, word("if")), api.Expr{}), api.ErrName, api.ErrArg},
		{of(api.XAdd, of(api.XNeg, slot(16)), api.Expr{}), api.ErrArg, api.ErrRange},
		{api.Expr{Op: api.XInt, N: maxInt + 1, Kids: list(word("if"))}, api.ErrArg, api.ErrArg},
		{api.Expr{Op: api.XName, Name: "if", N: 1}, api.ErrArg, api.ErrArg},
		{api.Expr{Op: api.XName, Name: "if", Kids: list(number(maxInt + 1))}, api.ErrArg, api.ErrArg},
		{api.Expr{Op: api.XSlot, N: 16, Name: "a"}, api.ErrArg, api.ErrArg},
		{api.Expr{Op: api.XBool, N: 2, Name: "if"}, api.ErrArg, api.ErrArg},
		{api.Expr{Op: api.XBool, N: 2, Kids: list(now())}, api.ErrArg, api.ErrArg},
	} {
		testErrors(t, c.e, c.source, c.code)
	}
}

func TestNumbersOfNodes(t *testing.T) {
	o := newOracle()
	for n := 1; n <= 130; n++ {
		e := sized(n)
		if got := expr.Nodes(e); got != n {
			t.Fatalf("%d nodes are counted as %d", n, got)
		}
		want := api.OK
		if n > maxNodes {
			want = api.ErrLong
		}
		testErrors(t, e, want, want)
		// A sum has two Kids; only the number of nodes comes before that.
		row := of(api.XAdd, slices.Repeat(list(number(maxInt+1)), n-1)...)
		switch {
		case n > maxNodes:
			want = api.ErrLong
		case n == 3:
			want = api.ErrRange
		default:
			want = api.ErrArg
		}
		testErrors(t, row, want, want)
		o.test(t, e)
		o.test(t, row)
		for _, bad := range faults() {
			o.test(t, of(api.XSub, e, bad))
			o.test(t, of(api.XSub, bad, e))
		}
	}
}

func TestNumbersOfLevels(t *testing.T) {
	o := newOracle()
	for n := 1; n <= 80; n++ {
		e := chain(n-1, api.Expr{Op: api.XBool, N: 1})
		want := api.OK
		if n > maxNest {
			want = api.ErrDeep
		}
		if n > maxNodes {
			want = api.ErrLong
		}
		testErrors(t, e, want, want)
		if got := expr.Depth(e); got != n {
			t.Errorf("%d levels are counted as %d", n, got)
		}
		o.test(t, e)
		// The deepest one of the Kids counts, wherever it is.
		for _, other := range append(faults(), full(3, now()), chain(5, now())) {
			o.test(t, of(api.XAdd, e, other))
			o.test(t, of(api.XAdd, other, e))
			o.test(t, of(api.XAdd, of(api.XNeg, other), e))
			o.test(t, of(api.XAdd, other, e, other))
			o.test(t, chain(2, of(api.XMax, e, of(api.XMin, other, other))))
			o.test(t, chain(n-1, other))
		}
	}
}

func TestOrderOfLengthDepthAndFields(t *testing.T) {
	o := newOracle()
	// Trees that are at the limits, or beyond one or both of them, with and without a fault.
	for levels := 10; levels <= 15; levels++ {
		for nodes := 55; nodes <= 66; nodes++ {
			for _, leaf := range append(faults(), of(99, of(98))) {
				for _, e := range []api.Expr{chain(levels-1, leaf), set(leaf, func(e *api.Expr) { e.Kids = append(list(chain(levels-2, now())), e.Kids...) })} {
					missing := nodes - len(flat(e))
					wide := set(e, func(e *api.Expr) { e.Kids = append(slices.Repeat(list(now()), missing-2), e.Kids...) })
					deep := of(api.XAdd, e, sized(missing-1))
					for _, x := range []api.Expr{e, wide, of(api.XNot, wide), deep, of(api.XAdd, sized(missing-1), e), of(api.XNot, deep)} {
						o.test(t, x)
					}
				}
			}
		}
	}
	for _, c := range []struct {
		e    api.Expr
		want api.Errno
	}{
		{of(api.XAdd, chain(10, now()), sized(48)), api.OK},
		{of(api.XAdd, chain(10, now()), sized(49)), api.ErrLong},
		{of(api.XAdd, chain(11, now()), sized(47)), api.ErrDeep},
		{of(api.XAdd, chain(11, now()), sized(48)), api.ErrLong},
		{of(api.XAdd, chain(11, api.Expr{}), sized(48)), api.ErrLong},
		{of(0, chain(11, now()), sized(48)), api.ErrLong},
		{of(0, chain(11, now()), sized(47)), api.ErrDeep},
		{of(0, chain(10, now()), sized(48)), api.ErrArg},
		{of(api.XAdd, chain(10, number(maxInt+1)), sized(48)), api.ErrRange},
		{of(api.XAdd, chain(11, number(maxInt+1)), sized(47)), api.ErrDeep},
	} {
		testErrors(t, c.e, c.want, c.want)
	}
}

func TestExamplesOfNodesAndDepth(t *testing.T) {
	for _, c := range []struct {
		e             api.Expr
		nodes, levels int
	}{
		{api.Expr{}, 1, 1},
		{api.Expr{Kids: list()}, 1, 1},
		{number(maxInt + 1), 1, 1},
		{of(api.XAdd, word("a"), number(2)), 3, 2},
		{of(api.XNeg, of(api.XAdd, word("a"), number(2))), 4, 3},
		{of(api.XAdd, number(1), of(api.XNeg, number(2))), 4, 3},
		{of(api.XAdd, of(api.XNeg, number(1)), number(2)), 4, 3},
		{of(-1, of(0), of(99, of(0, of(0))), of(0)), 6, 4},
		{of(0, of(0), of(0), of(0), of(0)), 5, 2},
		{full(1, now()), 1, 1},
		{full(5, now()), 31, 5},
		{full(20, api.Expr{}), 1<<20 - 1, 20},
		{chain(11, now()), 12, 12},
	} {
		if nodes, levels := expr.Nodes(c.e), expr.Depth(c.e); nodes != c.nodes || levels != c.levels {
			t.Errorf("%s has %d nodes and %d levels, not %d and %d", brief(c.e), nodes, levels, c.nodes, c.levels)
		}
	}
}

func TestManyNodesAndManyLevels(t *testing.T) {
	const many, deep = 1 << 20, 1 << 16
	row := of(api.XAdd, slices.Repeat(list(number(1)), many)...)
	tower := chain(deep-1, word("a"))
	for _, c := range []struct {
		e             api.Expr
		nodes, levels int
	}{{row, many + 1, 2}, {tower, deep, deep}, {of(api.XAdd, row, tower), many + deep + 2, deep + 1}} {
		if nodes, levels := expr.Nodes(c.e), expr.Depth(c.e); nodes != c.nodes || levels != c.levels {
			t.Errorf("%d nodes and %d levels, not %d and %d", nodes, levels, c.nodes, c.levels)
		}
		testErrors(t, c.e, api.ErrLong, api.ErrLong)
		if got := expr.Names(c.e); len(got) != 0 {
			t.Errorf("%d nodes and %d levels have names: %q", c.nodes, c.levels, got)
		}
		if !expr.Same(c.e, copied(c.e)) || expr.Same(c.e, of(api.XNot, c.e)) || expr.Same(of(api.XNot, c.e), c.e) {
			t.Errorf("%d nodes and %d levels are not compared well", c.nodes, c.levels)
		}
		x := expr.Replace(c.e, "a", of(api.XNeg, number(1)))
		if got, want := expr.Nodes(x), c.nodes+c.levels/deep; got != want {
			t.Errorf("%d nodes and %d levels become %d nodes, not %d", c.nodes, c.levels, got, want)
		}
	}
}

func TestSharedMemoryOfManyNodes(t *testing.T) {
	// As a tree this has 2^100 - 1 nodes, and the next one has no end.
	huge := full(100, word("a"))
	endless := of(api.XNot, now())
	endless.Kids[0] = of(api.XNot)
	endless.Kids[0].Kids = endless.Kids
	for _, e := range []api.Expr{huge, endless, of(api.XAdd, word("if"), endless), of(0, huge, huge)} {
		if source, code := expr.Check(e), expr.CheckCode(e); source != api.ErrLong || code != api.ErrLong {
			t.Error(source, code)
		}
		if got := expr.Names(e); len(got) != 0 {
			t.Error(got)
		}
	}
	endless.Kids[0].Kids = nil
}

// random is a random expression with at most so many levels: of the forms of source texts, or of compiled expressions.
func random(r *rand.Rand, levels int, compiled bool) api.Expr {
	if levels > 1 && r.IntN(4) > 0 {
		if r.IntN(3) == 0 {
			return of(pick(r, ops(unary)), random(r, levels-1, compiled))
		}
		return of(pick(r, ops(binary)), random(r, levels-1, compiled), random(r, levels-1, compiled))
	}
	leaves := list(number(r.IntN(10)), number(pick(r, []int{0, maxInt, -maxInt})), api.Expr{Op: api.XBool, N: r.IntN(2)}, now())
	if compiled {
		leaves = append(leaves, slot(r.IntN(16)), api.Expr{Op: api.XVar, N: r.IntN(32)}, api.Expr{Op: pick(r, ops(asking)), N: r.IntN(64)})
	} else {
		leaves = append(leaves, word(pick(r, names("a", "b", "c", "b_1"))), ask(pick(r, ops(asking)), pick(r, names("a", "b", "r", "b_"))))
	}
	return pick(r, leaves)
}

// damaged is an expression with changes at some of its nodes.
func damaged(r *rand.Rand, e api.Expr) api.Expr {
	e.Kids = slices.Clone(e.Kids)
	for i := range e.Kids {
		e.Kids[i] = damaged(r, e.Kids[i])
	}
	switch r.IntN(60) {
	case 0:
		e.Op = pick(r, someOps())
	case 1:
		e.Name = pick(r, someNames()[:19])
	case 2:
		e.N = pick(r, someNumbers())
	case 3:
		e.Kids = append(e.Kids, pick(r, faults()))
	case 4:
		e.Kids = e.Kids[:len(e.Kids)/2]
	case 5:
		return pick(r, faults())
	}
	return e
}

func TestRandomExpressions(t *testing.T) {
	o := newOracle()
	r := rand.New(rand.NewPCG(9, 1))
	seen := map[api.Errno]int{}
	for i := range 12000 {
		e := random(r, 1+r.IntN(8), i%2 == 0)
		o.test(t, e)
		e = damaged(r, e)
		o.test(t, e)
		seen[expr.Check(e)]++
		seen[expr.CheckCode(e)]++
		e = chain(r.IntN(12), e)
		o.test(t, e)
		seen[expr.Check(e)]++
	}
	for _, errno := range []api.Errno{api.OK, api.ErrArg, api.ErrRange, api.ErrName, api.ErrLong, api.ErrDeep} {
		if seen[errno] < 100 {
			t.Errorf("the result %v was seen %d times only", errno, seen[errno])
		}
	}
}

func TestKidsOfAcceptedExpressions(t *testing.T) {
	r := rand.New(rand.NewPCG(9, 2))
	for i := range 20000 {
		e := random(r, 1+r.IntN(7), i%2 == 0)
		source, code := expr.Check(e), expr.CheckCode(e)
		sum, below := 0, 0
		for _, kid := range e.Kids {
			if source == api.OK && expr.Check(kid) != api.OK || code == api.OK && expr.CheckCode(kid) != api.OK {
				t.Fatalf("%s is accepted, but not %s", show(e), show(kid))
			}
			sum += expr.Nodes(kid)
			below = max(below, expr.Depth(kid))
		}
		if expr.Nodes(e) != sum+1 || expr.Depth(e) != below+1 {
			t.Fatalf("%s has %d nodes and %d levels", show(e), expr.Nodes(e), expr.Depth(e))
		}
	}
}

// P9.2

func TestExamplesOfSame(t *testing.T) {
	a, b := of(api.XAdd, word("a"), number(2)), of(api.XAdd, number(2), word("a"))
	for _, c := range []struct {
		a, b api.Expr
		want bool
	}{
		{a, of(api.XAdd, word("a"), number(2)), true},
		{a, b, false},
		{a, of(api.XSub, word("a"), number(2)), false},
		{a, of(api.XAdd, word("b"), number(2)), false},
		{a, of(api.XAdd, word("a"), number(3)), false},
		{a, of(api.XAdd, word("a")), false},
		{a, of(api.XAdd, word("a"), number(2), number(2)), false},
		{api.Expr{}, api.Expr{}, true},
		{api.Expr{}, api.Expr{Kids: list()}, true},
		{api.Expr{Kids: list()}, api.Expr{Kids: make([]api.Expr, 0, 5)}, true},
		{api.Expr{}, api.Expr{Kids: list(api.Expr{})}, false},
		{now(), api.Expr{Op: api.XNow, Kids: a.Kids[:0]}, true},
		{of(api.XNeg, now()), of(api.XNeg, api.Expr{Op: api.XNow, Kids: list()}), true},
		{of(api.XNeg, number(1)), of(api.XNot, number(1)), false},
		{number(1), api.Expr{Op: api.XBool, N: 1}, false},
		{number(-1), number(1), false},
		{number(math.MinInt), number(math.MaxInt), false},
		{api.Expr{Op: 1 << 32}, api.Expr{}, false},
		{number(1 << 32), number(0), false},
		{word(""), word("a"), false},
		{word("a"), word("a\x00"), false},
		{word("\xff"), word("\xff"), true},
		{word("\xff"), word("\xfe"), false},
		{word("a"), word("A"), false},
		{of(-5, of(99, word("if"))), of(-5, of(99, word("if"))), true},
		{of(-5, of(99, word("if"))), of(-5, of(98, word("if"))), false},
		{of(-5, of(99, word("if"))), of(-4, of(99, word("if"))), false},
		// The same nodes in the same order, but with other Kids.
		{of(api.XAdd, of(api.XNeg, number(1)), number(2)), of(api.XAdd, of(api.XNeg, number(1), number(2))), false},
		{of(0, of(0, of(0)), of(0)), of(0, of(0), of(0, of(0))), false},
	} {
		if expr.Same(c.a, c.b) != c.want || expr.Same(c.b, c.a) != c.want {
			t.Errorf("Same(%s, %s) is not %v", show(c.a), show(c.b), c.want)
		}
	}
}

// pool has all expressions of up to so many levels with up to two Kids at each node, of few fields.
func pool(levels int) []api.Expr {
	var all []api.Expr
	for _, leaf := range list(api.Expr{}, word("a"), number(1), api.Expr{Op: api.XInt, Name: "a"}, api.Expr{Kids: list()}) {
		all = append(all, leaf)
		if levels == 1 {
			continue
		}
		for _, a := range pool(levels - 1) {
			all = append(all, set(leaf, func(e *api.Expr) { e.Kids = list(a) }))
			for _, b := range pool(levels - 1) {
				all = append(all, set(leaf, func(e *api.Expr) { e.Kids = list(a, b) }))
			}
		}
	}
	return all
}

func TestSameIsItsDefinition(t *testing.T) {
	all := pool(2)
	texts := make([]string, len(all))
	for i, e := range all {
		texts[i] = show(e)
	}
	equal := 0
	for i, a := range all {
		for j, b := range all {
			want := texts[i] == texts[j]
			if expr.Same(a, b) != want {
				t.Fatalf("Same(%s, %s) is not %v", texts[i], texts[j], want)
			}
			if want && (expr.Check(a) != expr.Check(b) || expr.CheckCode(a) != expr.CheckCode(b) || !slices.Equal(expr.Names(a), expr.Names(b))) {
				t.Fatalf("%s is not checked like itself", texts[i])
			}
			if want {
				equal++
			}
		}
	}
	if equal <= len(all) {
		t.Error("only identical ones are equal")
	}
}

// at calls change for the node of e with the number n in the order of flat, and returns whether there is one and the number of nodes.
func at(e *api.Expr, n int, change func(*api.Expr)) (bool, int) {
	if n == 0 {
		change(e)
		return true, 0
	}
	count := 1
	for i := range e.Kids {
		done, nodes := at(&e.Kids[i], n-count, change)
		if done {
			return true, 0
		}
		count += nodes
	}
	return false, count
}

func TestEachFieldOfEachNodeMattersToSame(t *testing.T) {
	changes := []func(*api.Expr){
		func(e *api.Expr) { e.Op++ },
		func(e *api.Expr) { e.Op = -e.Op - 1 },
		func(e *api.Expr) { e.Name += "a" },
		func(e *api.Expr) { e.N++ },
		func(e *api.Expr) { e.N += 1 << 40 },
		func(e *api.Expr) { e.Kids = append(e.Kids, api.Expr{}) },
		func(e *api.Expr) { e.Kids = append(list(api.Expr{}), e.Kids...) },
	}
	r := rand.New(rand.NewPCG(9, 3))
	for i := range 300 {
		e := random(r, 1+r.IntN(6), i%2 == 0)
		for n := range flat(e) {
			for k, change := range changes {
				x := copied(e)
				if done, _ := at(&x, n, change); !done {
					t.Fatal("there is no node", n)
				}
				if expr.Same(e, x) || expr.Same(x, e) {
					t.Fatalf("%s is equal to %s after change %d", show(e), show(x), k)
				}
			}
			x := copied(e)
			at(&x, n, func(e *api.Expr) {
				if len(e.Kids) == 0 {
					e.Kids = nil
				}
			})
			if !expr.Same(e, x) || !expr.Same(x, e) {
				t.Fatalf("%s is not equal to itself with nil", show(e))
			}
		}
	}
}

func TestEqualExpressionsAreTreatedAlike(t *testing.T) {
	r := rand.New(rand.NewPCG(9, 4))
	for i := range 5000 {
		e := damaged(r, random(r, 1+r.IntN(6), i%2 == 0))
		x := copied(e)
		if !expr.Same(e, x) {
			t.Fatalf("%s is not equal to its copy", show(e))
		}
		if expr.Check(e) != expr.Check(x) || expr.CheckCode(e) != expr.CheckCode(x) || !slices.Equal(expr.Names(e), expr.Names(x)) || expr.Nodes(e) != expr.Nodes(x) || expr.Depth(e) != expr.Depth(x) {
			t.Fatalf("%s and its copy are not treated alike", show(e))
		}
	}
}

// P9.3

func TestExamplesOfNames(t *testing.T) {
	for _, c := range []struct {
		e    api.Expr
		want []string
	}{
		{of(api.XSub, of(api.XAdd, word("b"), ask(api.XFree, "a")), word("b")), names("a", "b")},
		{word("a"), names("a")},
		{ask(api.XFree, "a"), names("a")},
		{ask(api.XSize, "a"), names("a")},
		{ask(api.XWaiting, "a"), names("a")},
		{number(1), nil},
		{now(), nil},
		{api.Expr{Op: api.XBool, N: 1}, nil},
		{of(api.XNot, api.Expr{Op: api.XBool}), nil},
		{of(api.XAdd, ask(api.XSize, "a"), of(api.XMul, ask(api.XFree, "a"), of(api.XMin, ask(api.XWaiting, "a"), word("a")))), names("a")},
		{of(api.XAdd, ask(api.XSize, "d"), of(api.XMul, ask(api.XFree, "c"), of(api.XMin, ask(api.XWaiting, "b"), word("a")))), names("a", "b", "c", "d")},
		{of(api.XAdd, word("a"), of(api.XAdd, word("b"), of(api.XAdd, word("a"), word("b")))), names("a", "b")},
		// Byte by byte; a proper prefix comes first.
		{of(api.XAdd, of(api.XAdd, word("b"), word("ab")), of(api.XAdd, word("a_"), of(api.XAdd, word("a9"), word("a")))), names("a", "a9", "a_", "ab", "b")},
		{of(api.XAdd, word("a10"), word("a9")), names("a10", "a9")},
		// Rejected ones have none, also of those of their names that are valid.
		{word("if"), nil},
		{word(""), nil},
		{of(api.XAdd, word("a"), word("if")), nil},
		{of(api.XAdd, word("a"), number(maxInt+1)), nil},
		{of(api.XAdd, word("a")), nil},
		{api.Expr{Op: api.XName, Name: "a", N: 1}, nil},
		{api.Expr{Op: api.XInt, Name: "a"}, nil},
		{of(api.XAdd, word("a"), slot(0)), nil},
		{api.Expr{Op: api.XFree, Name: "a", N: 3}, nil},
		{api.Expr{Op: api.XFree, N: 3}, nil},
		{api.Expr{Op: api.XFree}, nil},
		{chain(11, word("a")), names("a")},
		{chain(12, word("a")), nil},
		{api.Expr{Op: 99, Name: "a"}, nil},
	} {
		if got := expr.Names(c.e); !slices.Equal(got, c.want) {
			t.Errorf("Names(%s) = %q, not %q", show(c.e), got, c.want)
		}
	}
}

func TestNamesAtEachPlace(t *testing.T) {
	// 30 leaves, each of which has a name of its own, in the four forms one after the other; the reverse order, and all alike.
	for _, step := range []int{1, 7, 29, 0} {
		var row []api.Expr
		for i := range 30 {
			op := []api.ExprOp{api.XName, api.XFree, api.XSize, api.XWaiting}[i%4]
			row = append(row, ask(op, fmt.Sprint("n", i*step%30)))
		}
		want := map[string]bool{}
		for _, leaf := range row {
			want[leaf.Name] = true
		}
		for len(row) > 1 {
			row = append(row[2:], of(api.XAdd, row[0], row[1]))
		}
		if got := expr.Names(row[0]); !slices.Equal(got, slices.Sorted(maps.Keys(want))) {
			t.Errorf("step %d: %q", step, got)
		}
		if got := expr.Names(of(api.XNot, row[0])); len(got) != len(want) {
			t.Errorf("step %d and 60 nodes: %q", step, got)
		}
		if got := expr.Names(chain(2, row[0])); len(got) != 0 {
			t.Errorf("step %d and 61 nodes: %q", step, got)
		}
	}
}

func TestNamesAreValidAndIncreasing(t *testing.T) {
	o := newOracle()
	r := rand.New(rand.NewPCG(9, 5))
	for range 20000 {
		e := random(r, 1+r.IntN(7), false)
		if r.IntN(4) == 0 {
			e = damaged(r, e)
		}
		got := expr.Names(e)
		if !slices.Equal(got, o.mentioned(e)) {
			t.Fatalf("Names(%s) = %q", show(e), got)
		}
		for i, name := range got {
			if !validName(name) || i > 0 && got[i-1] >= name {
				t.Fatalf("Names(%s) = %q", show(e), got)
			}
		}
	}
}

// P9.4

func TestExamplesOfReplace(t *testing.T) {
	x, by := word("x"), of(api.XAdd, number(1), word("y"))
	odd := api.Expr{Op: api.XName, Name: "x", N: 7, Kids: list(word("x"), number(2))}
	for _, c := range []struct {
		e    api.Expr
		name string
		by   api.Expr
		want api.Expr
	}{
		{of(api.XMul, x, x), "x", by, of(api.XMul, by, by)},
		{x, "x", by, by},
		{x, "y", by, x},
		{number(1), "x", by, number(1)},
		{of(api.XMul, x, word("y")), "x", by, of(api.XMul, by, word("y"))},
		{of(api.XMul, x, word("y")), "y", by, of(api.XMul, x, by)},
		{of(api.XMul, x, word("y")), "z", by, of(api.XMul, x, word("y"))},
		{of(api.XNeg, of(api.XSub, of(api.XAdd, x, number(2)), of(api.XNot, x))), "x", now(), of(api.XNeg, of(api.XSub, of(api.XAdd, now(), number(2)), of(api.XNot, now())))},
		// In what is put in, nothing is replaced.
		{x, "x", of(api.XAdd, x, x), of(api.XAdd, x, x)},
		{of(api.XMul, x, x), "x", of(api.XNeg, x), of(api.XMul, of(api.XNeg, x), of(api.XNeg, x))},
		{of(api.XMul, x, x), "x", x, of(api.XMul, x, x)},
		{of(api.XSub, x, word("y")), "x", word("y"), of(api.XSub, word("y"), word("y"))},
		// The names of objects are no nodes of the form XName.
		{of(api.XAdd, x, ask(api.XFree, "x")), "x", by, of(api.XAdd, by, ask(api.XFree, "x"))},
		{of(api.XAdd, ask(api.XSize, "x"), ask(api.XWaiting, "x")), "x", by, of(api.XAdd, ask(api.XSize, "x"), ask(api.XWaiting, "x"))},
		{x, "x", ask(api.XFree, "x"), ask(api.XFree, "x")},
		{api.Expr{Op: api.XInt, Name: "x"}, "x", by, api.Expr{Op: api.XInt, Name: "x"}},
		// Names are compared as a whole.
		{of(api.XAdd, word("xx"), word("X")), "x", by, of(api.XAdd, word("xx"), word("X"))},
		{of(api.XAdd, word("x"), word("xx")), "xx", by, of(api.XAdd, word("x"), by)},
		// Any expressions are accepted.
		{word("if"), "if", by, by},
		{of(api.XNeg, word("")), "", by, of(api.XNeg, by)},
		{word("\xff"), "\xff", by, by},
		{now(), "", by, now()},
		{api.Expr{}, "", by, api.Expr{}},
		{x, "x", api.Expr{}, api.Expr{}},
		{odd, "x", by, by},
		{odd, "y", by, odd},
		{of(99, x, odd, of(-3, x)), "x", number(maxInt + 1), of(99, number(maxInt+1), number(maxInt+1), of(-3, number(maxInt+1)))},
		{x, "x", odd, odd},
		{api.Expr{Op: api.XName, Name: "y", N: 7, Kids: list(x)}, "x", by, api.Expr{Op: api.XName, Name: "y", N: 7, Kids: list(by)}},
		{api.Expr{Op: api.XFree, Name: "x", N: -1, Kids: list(x, x)}, "x", odd, api.Expr{Op: api.XFree, Name: "x", N: -1, Kids: list(odd, odd)}},
		{slot(3), "x", by, slot(3)},
	} {
		if got := expr.Replace(c.e, c.name, c.by); show(got) != show(c.want) {
			t.Errorf("Replace(%s, %q, %s) = %s, not %s", show(c.e), c.name, show(c.by), show(got), show(c.want))
		}
	}
}

// replaced is the definition of Replace, and tells how many nodes are replaced.
func replaced(e api.Expr, name string, by api.Expr) (api.Expr, int) {
	if e.Op == api.XName && e.Name == name {
		return by, 1
	}
	total := 0
	var kids []api.Expr
	for _, kid := range e.Kids {
		x, count := replaced(kid, name, by)
		kids = append(kids, x)
		total += count
	}
	return api.Expr{Op: e.Op, Name: e.Name, N: e.N, Kids: kids}, total
}

// testReplace compares Replace with its definition, and its sizes with the promise.
func testReplace(t *testing.T, e api.Expr, name string, by api.Expr) int {
	t.Helper()
	before, beforeBy := show(e), show(by)
	got := expr.Replace(e, name, by)
	want, count := replaced(e, name, by)
	if show(got) != show(want) || !expr.Same(got, want) {
		t.Fatalf("Replace(%s, %q, %s) = %s, not %s", show(e), name, show(by), show(got), show(want))
	}
	if show(e) != before || show(by) != beforeBy {
		t.Fatalf("%s or %s was modified", before, beforeBy)
	}
	if !expr.Same(expr.Replace(e, name, by), got) {
		t.Fatalf("Replace of %s has another result again", show(e))
	}
	return count
}

func TestReplaceIsItsDefinition(t *testing.T) {
	all := append(pool(2), faults()...)
	for i, e := range all {
		for _, name := range names("a", "", "b", "if") {
			for j := i % 7; j < len(all); j += 7 {
				testReplace(t, e, name, all[j])
			}
		}
	}
	r := rand.New(rand.NewPCG(9, 6))
	most := 0
	for i := range 20000 {
		e, by := damaged(r, random(r, 1+r.IntN(7), i%5 == 0)), damaged(r, random(r, 1+r.IntN(4), i%7 == 0))
		most = max(most, testReplace(t, e, pick(r, names("a", "b", "c", "b_1", "b_", "if", "")), by))
	}
	if most < 4 {
		t.Errorf("at most %d nodes were replaced", most)
	}
	for levels := 1; levels <= 10; levels++ {
		for _, by := range list(now(), word("x"), of(api.XNeg, word("x")), full(4, word("x")), api.Expr{}) {
			if count := testReplace(t, full(levels, word("x")), "x", by); count != 1<<(levels-1) {
				t.Errorf("%d nodes were replaced in %d levels", count, levels)
			}
			testReplace(t, full(levels, of(api.XLt, word("y"), word("x"))), "x", by)
			testReplace(t, full(levels, of(api.XLt, ask(api.XFree, "x"), word("y"))), "x", by)
		}
	}
}

func TestReplacedNodesAndNames(t *testing.T) {
	r := rand.New(rand.NewPCG(9, 7))
	for range 20000 {
		e, by, name := random(r, 1+r.IntN(6), false), random(r, 1+r.IntN(3), false), pick(r, names("a", "b", "c", "b_1", "none"))
		k := 0
		for _, p := range flat(e) {
			if p.node.Op == api.XName && p.node.Name == name {
				k++
			}
		}
		x := expr.Replace(e, name, by)
		if got, want := expr.Nodes(x), expr.Nodes(e)+k*(expr.Nodes(by)-1); got != want {
			t.Fatalf("Replace(%s, %s, %s) has %d nodes, not %d", show(e), name, show(by), got, want)
		}
		// The text of a node occurs in the text of an expression where the node does, and nowhere else.
		if got, want := show(x), strings.ReplaceAll(show(e), show(word(name)), show(by)); got != want {
			t.Fatalf("Replace(%s, %s, %s) = %s, not %s", show(e), name, show(by), got, want)
		}
		known := append(expr.Names(e), expr.Names(by)...)
		for _, s := range expr.Names(x) {
			if expr.Check(e) == api.OK && !slices.Contains(known, s) {
				t.Fatalf("Replace(%s, %s, %s) mentions %s", show(e), name, show(by), s)
			}
		}
		if k == 0 && !expr.Same(x, e) {
			t.Fatalf("%s without %s became %s", show(e), name, show(x))
		}
		if itself := expr.Replace(e, name, word(name)); !expr.Same(itself, e) {
			t.Fatalf("%s with %s in place of itself is %s", show(e), name, show(itself))
		}
		if k > 0 && !slices.Contains(expr.Names(by), name) && expr.Check(by) == api.OK {
			if twice := expr.Replace(x, name, now()); !expr.Same(twice, x) {
				t.Fatalf("%s is left in %s", name, show(x))
			}
		}
	}
}

// spoil changes all nodes below e.
func spoil(e api.Expr) {
	for i := range e.Kids {
		spoil(e.Kids[i])
		e.Kids[i].N, e.Kids[i].Name = -77, "spoilt"
	}
}

func TestReplaceSharesNoMemory(t *testing.T) {
	r := rand.New(rand.NewPCG(9, 8))
	for range 3000 {
		e, by, name := random(r, 1+r.IntN(6), false), random(r, 1+r.IntN(3), false), pick(r, names("a", "b", "none"))
		before, beforeBy := show(e), show(by)
		x := expr.Replace(e, name, by)
		whole := show(x)
		spoil(x)
		if show(e) != before || show(by) != beforeBy {
			t.Fatalf("%s or %s shares memory with the result", before, beforeBy)
		}
		x = expr.Replace(e, name, by)
		spoil(e)
		spoil(by)
		if show(x) != whole {
			t.Fatalf("%s shares memory with its arguments", whole)
		}
	}
	// No two places of a result share memory, and none grows into memory of another one.
	x := word("x")
	y := expr.Replace(of(api.XMul, x, of(api.XNeg, x)), "x", of(api.XAdd, number(1), number(2)))
	y.Kids[0].Kids[0] = number(5)
	_ = append(y.Kids[0].Kids, number(6))
	want := of(api.XMul, of(api.XAdd, number(5), number(2)), of(api.XNeg, of(api.XAdd, number(1), number(2))))
	if !expr.Same(y, want) {
		t.Errorf("%s, not %s", show(y), show(want))
	}
	kids := list(x, number(2), number(3))
	e := api.Expr{Op: api.XMul, Kids: kids[:2]}
	y = expr.Replace(e, "x", api.Expr{Op: api.XMul, Kids: kids[:2]})
	_ = append(y.Kids, number(6))
	_ = append(y.Kids[0].Kids, number(7))
	if kids[0].Name != "x" || kids[1].N != 2 || kids[2].N != 3 {
		t.Error("the memory of the arguments was modified")
	}
}

func TestReplacedKidsAreEmptyOrNil(t *testing.T) {
	for _, kids := range [][]api.Expr{nil, list()} {
		e := api.Expr{Op: api.XAdd, Kids: list(word("x"), api.Expr{Op: api.XNow, Kids: kids})}
		got := expr.Replace(e, "x", api.Expr{Op: api.XInt, N: 1, Kids: kids})
		if !expr.Same(got, of(api.XAdd, number(1), now())) || expr.Check(got) != api.OK {
			t.Error(show(got))
		}
		x := api.Expr{Op: api.XName, Name: "x", Kids: kids}
		if got := expr.Replace(x, "x", now()); !expr.Same(got, now()) {
			t.Error(show(got))
		}
	}
}

// P9.5

func TestExamplesOfConst(t *testing.T) {
	for _, n := range someNumbers() {
		truth := 1
		if n == 0 {
			truth = 0
		}
		for _, c := range []struct {
			kind api.Type
			want api.Expr
		}{
			{api.Int, number(n)},
			{api.Bool, api.Expr{Op: api.XBool, N: truth}},
			{api.Time, of(api.XDur, number(n))},
			{0, api.Expr{}}, {4, api.Expr{}}, {5, api.Expr{}}, {-1, api.Expr{}}, {-3, api.Expr{}}, {1<<32 + 1, api.Expr{}}, {257, api.Expr{}}, {math.MaxInt, api.Expr{}}, {math.MinInt, api.Expr{}},
		} {
			got := expr.Const(c.kind, n)
			if show(got) != show(c.want) {
				t.Errorf("Const(%d, %d) = %s, not %s", c.kind, n, show(got), show(c.want))
			}
			want := c.kind == api.Bool || (c.kind == api.Int || c.kind == api.Time) && n >= -maxInt && n <= maxInt
			if accepted := expr.Check(got) == api.OK; accepted != want {
				t.Errorf("Const(%d, %d) is accepted: %v", c.kind, n, accepted)
			}
			if accepted := expr.CheckCode(got) == api.OK; accepted != want {
				t.Errorf("Const(%d, %d) is accepted as a compiled expression: %v", c.kind, n, accepted)
			}
			if names := expr.Names(got); len(names) != 0 {
				t.Errorf("Const(%d, %d) has the names %q", c.kind, n, names)
			}
		}
	}
}

func TestErrorsOfConst(t *testing.T) {
	for _, n := range []int{maxInt + 1, -maxInt - 1, math.MaxInt, math.MinInt} {
		for _, kind := range []api.Type{api.Int, api.Time} {
			testErrors(t, expr.Const(kind, n), api.ErrRange, api.ErrRange)
		}
	}
	for _, kind := range []api.Type{0, 4, -1} {
		testErrors(t, expr.Const(kind, 1), api.ErrArg, api.ErrArg)
	}
}

func TestConstantsAreNewMemory(t *testing.T) {
	a := expr.Const(api.Time, 5)
	spoil(a)
	if b := expr.Const(api.Time, 5); !expr.Same(b, of(api.XDur, number(5))) {
		t.Error(show(b))
	}
}

func TestNothingIsModifiedOrKept(t *testing.T) {
	r := rand.New(rand.NewPCG(9, 9))
	for i := range 3000 {
		e := damaged(r, random(r, 1+r.IntN(6), i%2 == 0))
		before := show(e)
		for range 2 {
			source, code, all := expr.Check(e), expr.CheckCode(e), expr.Names(e)
			nodes, levels := expr.Nodes(e), expr.Depth(e)
			kept := slices.Clone(all)
			for j := range all {
				all[j] = "spoilt"
			}
			if show(e) != before || expr.Check(e) != source || expr.CheckCode(e) != code || expr.Nodes(e) != nodes || expr.Depth(e) != levels || !slices.Equal(expr.Names(e), kept) || !expr.Same(e, copied(e)) {
				t.Fatalf("%s was modified, or something was kept", before)
			}
		}
	}
}
