package parse_test

import (
	"math/rand/v2"
	"slices"
	"strconv"
	"strings"

	"simulator/api"
)

// writer writes models, statements and expressions as texts: as plainly as possible, or with parentheses, blanks, comments and other ways to write the same wherever chance puts them.
type writer struct {
	plain bool
	r     *rand.Rand
	// The tokens of each line, and of the one that is being written.
	lines [][]string
	line  []string
}

// chance is true sometimes, and never in plain texts.
func (w *writer) chance(n int) bool { return !w.plain && w.r.IntN(n) == 0 }

// put writes tokens, which are separated by blanks in s.
func (w *writer) put(s ...string) {
	for _, x := range s {
		w.line = append(w.line, strings.Fields(x)...)
	}
}

// number writes a number.
func (w *writer) number(l ...int) {
	for _, n := range l {
		w.put(strconv.Itoa(n))
	}
}

// integer writes a number with a minus sign, if it needs one.
func (w *writer) integer(n int) {
	if n < 0 || n == 0 && w.chance(3) {
		w.put("-")
		n = -n
	}
	w.number(n)
}

// newLine ends the line.
func (w *writer) newLine() { w.lines, w.line = append(w.lines, w.line), nil }

// text returns what was written.
func (w *writer) text() string {
	var s strings.Builder
	for i, line := range w.lines {
		for w.chance(8) {
			s.WriteString(pick(w.r, "\n", " \n", "\t\t\n", "# end\n", "  # model m ( \" \x00 01 $\n"))
		}
		for j, token := range line {
			if j > 0 && (w.plain || touching(line[j-1], token)) {
				s.WriteByte(' ')
			}
			for w.chance(5) {
				s.WriteString(pick(w.r, " ", "\t", "   "))
			}
			s.WriteString(token)
		}
		if w.chance(8) {
			s.WriteString(pick(w.r, "#", " # hold 1", "\t", "  ", "#\xff)"))
		}
		if i < len(w.lines)-1 || !w.chance(2) {
			s.WriteByte('\n')
		}
	}
	return s.String()
}

// touching reports whether two tokens would become another one without a blank between them.
func touching(a, b string) bool {
	behind := func(s string) bool { return s[0] >= 'a' && s[0] <= 'z' || s[0] >= '0' && s[0] <= '9' }
	word := a[0] >= 'a' && a[0] <= 'z'
	digits := func(s string) bool { return s[0] >= '0' && s[0] <= '9' }
	return word && behind(b) || digits(a) && digits(b)
}

// The levels of expressions: what stands at a place must have at least its level, or parentheses.
const (
	levelOr = iota
	levelAnd
	levelNot
	levelCompare
	levelSum
	levelProduct
	levelFactor
	levelPrimary
)

// shape tells how the nodes of a form are written: the level of the whole, the sign between or before the Kids.
type shape struct {
	level int
	sign  string
}

func shapeOf(op api.ExprOp) shape {
	shapes := map[api.ExprOp]shape{
		api.XOr: {levelOr, "or"}, api.XAnd: {levelAnd, "and"}, api.XNot: {levelNot, "not"},
		api.XEq: {levelCompare, "="}, api.XNe: {levelCompare, "!="}, api.XLt: {levelCompare, "<"}, api.XLe: {levelCompare, "<="},
		api.XAdd: {levelSum, "+"}, api.XSub: {levelSum, "-"},
		api.XMul: {levelProduct, "*"}, api.XDiv: {levelProduct, "/"}, api.XMod: {levelProduct, "%"}, api.XNeg: {levelFactor, "-"},
		api.XDur: {levelPrimary, "dur"}, api.XTicks: {levelPrimary, "ticks"}, api.XMin: {levelPrimary, "min"}, api.XMax: {levelPrimary, "max"},
		api.XFree: {levelPrimary, "free"}, api.XSize: {levelPrimary, "size"}, api.XWaiting: {levelPrimary, "waiting"}, api.XNow: {levelPrimary, "now"},
	}
	if s, known := shapes[op]; known {
		return s
	}
	return shape{levelPrimary, ""}
}

// expr writes an expression.
func (w *writer) expr(e api.Expr) { w.exprAt(levelOr, e) }

// exprAt writes an expression where a level is needed.
func (w *writer) exprAt(level int, e api.Expr) {
	if shapeOf(e.Op).level >= level && !w.chance(6) {
		w.node(e)
		return
	}
	w.put("(")
	if e.Op == api.XNeg && e.Kids[0].Op == api.XInt && e.Kids[0].N >= 0 {
		// Otherwise it would be read as a constant.
		w.put("- (")
		w.number(e.Kids[0].N)
		w.put(")")
	} else {
		w.exprAt(levelOr, e)
	}
	w.put(")")
}

// node writes an expression without parentheses around it.
func (w *writer) node(e api.Expr) {
	s := shapeOf(e.Op)
	switch {
	case e.Op == api.XName:
		w.put(e.Name)
	case e.Op == api.XBool:
		w.put(map[int]string{0: "false", 1: "true"}[e.N])
	case e.Op == api.XInt && (e.N < 0 || e.N == 0 && w.chance(5)):
		w.put("( -")
		w.number(-e.N)
		w.put(")")
	case e.Op == api.XInt:
		w.number(e.N)
	case e.Op == api.XNow:
		w.put("now")
	case e.Name != "":
		w.put(s.sign, "(", e.Name, ")")
	case s.level == levelPrimary:
		w.put(s.sign)
		w.exprs(e.Kids)
	case len(e.Kids) == 1:
		w.put(s.sign)
		w.exprAt(s.level, e.Kids[0])
	case s.level == levelCompare && s.sign[0] == '<' && w.chance(2):
		w.exprAt(levelSum, e.Kids[1])
		w.put(">" + s.sign[1:])
		w.exprAt(levelSum, e.Kids[0])
	case s.level == levelCompare:
		w.exprAt(levelSum, e.Kids[0])
		w.put(s.sign)
		w.exprAt(levelSum, e.Kids[1])
	default:
		w.exprAt(s.level, e.Kids[0])
		w.put(s.sign)
		w.exprAt(s.level+1, e.Kids[1])
	}
}

// exprs writes expressions in parentheses.
func (w *writer) exprs(l []api.Expr) { listed(w, l, w.expr) }

// listed writes elements in parentheses.
func listed[T any](w *writer, l []T, write func(T)) {
	w.put("(")
	for i, x := range l {
		if i > 0 {
			w.put(",")
		}
		write(x)
	}
	w.put(")")
}

// stmts writes statements.
func (w *writer) stmts(l []api.Stmt) {
	for _, s := range l {
		w.stmt(s)
		w.newLine()
	}
}

// stmt writes a statement without the end of its line.
func (w *writer) stmt(s api.Stmt) {
	switch s.Op {
	case api.SSet:
		w.put("set", s.Name, "=")
		w.expr(s.E)
	case api.SDraw:
		w.put("draw", s.Name, "from", s.Of)
		w.dist(s.Dist)
	case api.SIf, api.SWhile:
		w.put(map[bool]string{true: "if", false: "while"}[s.Op == api.SIf])
		w.expr(s.E)
		w.newLine()
		w.stmts(s.Body)
		if len(s.Else) > 0 || s.Op == api.SIf && w.chance(2) {
			w.put("else")
			w.newLine()
			w.stmts(s.Else)
		}
		w.put("end")
	case api.SHold:
		w.put("hold")
		w.expr(s.E)
	case api.SPut:
		w.put("put")
		w.expr(s.E)
		w.put("into", s.Name)
	case api.SGet:
		w.put("get", s.Of, "from", s.Name)
	case api.SSend, api.SSpawn:
		w.put(map[bool]string{true: "send " + s.Of + " . ", false: "spawn "}[s.Op == api.SSend] + s.Name)
		w.exprs(s.Args)
		w.put("after")
		w.expr(s.E)
	case api.SRide:
		w.put("ride", s.Name)
	case api.SWait:
		w.put("wait", s.Name)
	case api.SEnd:
		w.put("stop")
	default:
		words := map[api.StmtOp]string{api.SSeize: "seize", api.SRelease: "release", api.SSignal: "signal", api.SObserve: "observe", api.SLevel: "level", api.SCount: "add"}
		w.put(words[s.Op], s.Name)
		w.expr(s.E)
		if s.Op == api.SSeize {
			w.put("prio")
			w.expr(s.F)
		}
		if s.Flag {
			w.put("preempt")
		}
	}
}

// dist writes a distribution.
func (w *writer) dist(d api.Dist) {
	switch d.Op {
	case api.DConst:
		w.put("const")
		w.number(d.A)
	case api.DUniform:
		w.put("uniform")
		w.number(d.A, d.B)
	case api.DTable:
		w.put("table")
		for i, value := range d.Values {
			w.pair(value, d.Weights[i])
		}
	case api.DSum:
		w.put("sum")
		w.number(d.N, d.A, d.B)
	case api.DGeom:
		w.put("geom")
		w.number(d.A, d.B)
	}
}

func (w *writer) pair(a, b int) { w.put(strconv.Itoa(a), ":", strconv.Itoa(b)) }

// model writes a model.
func (w *writer) model(m api.Model) {
	w.put("model", m.Name)
	w.newLine()
	w.mixed([][]func(){
		writes(m.Params, func(v api.Value) { w.value("param", v) }),
		writes(m.Links, func(l api.Link) {
			w.put("link", l.From, l.To)
			w.number(l.Delay)
			w.newLine()
		}),
		writes(m.Sites, w.site),
	})
	w.end()
}

// end writes a line with end.
func (w *writer) end() {
	w.put("end")
	w.newLine()
}

// writes returns a function for each element of l, which writes it.
func writes[T any](l []T, write func(T)) []func() {
	var all []func()
	for _, x := range l {
		all = append(all, func() { write(x) })
	}
	return all
}

// mixed writes the elements of lists, each list in its order, but with elements of others between them.
func (w *writer) mixed(l [][]func()) {
	for l = slices.Clone(l); len(l) > 0; {
		i := 0
		if !w.plain {
			i = w.r.IntN(len(l))
		}
		if len(l[i]) == 0 {
			l = slices.Delete(l, i, i+1)
			continue
		}
		l[i][0]()
		l[i] = l[i][1:]
	}
}

// value writes a parameter or a variable.
func (w *writer) value(word string, v api.Value) {
	w.put(word, v.Name, typeWord(v.Type), "=")
	if v.Type == api.Bool {
		w.put(map[int]string{0: "false", 1: "true"}[v.N])
	} else {
		w.integer(v.N)
	}
	w.newLine()
}

func typeWord(t api.Type) string {
	return map[api.Type]string{api.Int: "int", api.Bool: "bool", api.Time: "time"}[t]
}

// site writes a site.
func (w *writer) site(s api.SiteDecl) {
	w.put("site", s.Name)
	w.newLine()
	list := func(word string, l []string) []func() {
		return writes(l, func(name string) {
			w.put(word, name)
			w.newLine()
		})
	}
	w.mixed([][]func(){
		writes(s.Vars, func(v api.Value) { w.value("var", v) }), writes(s.Resources, w.resource), writes(s.Stores, w.store), writes(s.Belts, w.belt),
		list("queue", s.Queues), list("stream", s.Streams), list("tally", s.Tallies), list("level", s.Levels), list("count", s.Counts),
		writes(s.Routines, w.routine), writes(s.Starts, w.start), writes(s.Laws, w.law),
	})
	w.end()
}

func (w *writer) resource(d api.ResourceDecl) {
	w.put("resource", d.Name)
	w.number(d.Units)
	if len(d.Shift) > 0 {
		w.put("shift")
		for _, change := range d.Shift {
			w.pair(change.At, change.Units)
		}
		w.put("cycle")
		w.number(d.Cycle)
	}
	if d.Fault.Stream != "" {
		w.put("fault", d.Fault.Stream, "up")
		w.dist(d.Fault.Up)
		w.put("down")
		w.dist(d.Fault.Down)
	}
	w.newLine()
}

func (w *writer) store(d api.StoreDecl) {
	w.put("store", d.Name)
	w.number(d.Room)
	w.put(map[api.Policy]string{api.Fifo: "fifo", api.Lifo: "lifo", api.Least: "least"}[d.Policy])
	w.newLine()
}

func (w *writer) belt(d api.BeltDecl) {
	w.put("belt", d.Name)
	w.number(d.Length, d.Step)
	w.newLine()
}

func (w *writer) routine(d api.Routine) {
	field := func(f api.Field) { w.put(f.Name, typeWord(f.Type)) }
	w.put("routine", d.Name)
	listed(w, d.Params, field)
	w.newLine()
	for _, f := range d.Locals {
		w.put("local")
		field(f)
		w.newLine()
	}
	w.stmts(d.Body)
	w.end()
}

func (w *writer) start(d api.Start) {
	w.put("start", d.Routine)
	listed(w, d.Args, func(n int) {
		if (n == 0 || n == 1) && w.chance(2) {
			w.put([]string{"false", "true"}[n])
			return
		}
		w.integer(n)
	})
	w.put("at")
	w.number(d.At)
	if d.Every > 0 || d.Until > 0 || w.chance(3) {
		w.put("every")
		w.number(d.Every)
		w.put("until")
		w.number(d.Until)
	}
	w.newLine()
}

func (w *writer) law(d api.Law) {
	w.put("conserve", d.Name, ":")
	for i, term := range d.Terms {
		if term.Coef < 0 {
			w.put("-")
		} else if i > 0 {
			w.put("+")
		}
		if n := max(term.Coef, -term.Coef); n != 1 || w.chance(2) {
			w.number(n)
			w.put("*")
		}
		w.put(term.What, term.Name)
	}
	w.put("=")
	w.integer(d.Total)
	w.newLine()
}

// written returns what a function writes.
func written(w *writer, write func(*writer)) string {
	write(w)
	s := w.text()
	w.lines = nil
	return s
}

// exprText, stmtsText and modelText write something as a text.
func exprText(w *writer, e api.Expr) string {
	return written(w, func(w *writer) {
		w.expr(e)
		w.newLine()
	})
}

func stmtsText(w *writer, l []api.Stmt) string { return written(w, func(w *writer) { w.stmts(l) }) }
func modelText(w *writer, m api.Model) string  { return written(w, func(w *writer) { w.model(m) }) }

func pick[T any](r *rand.Rand, l ...T) T { return l[r.IntN(len(l))] }
