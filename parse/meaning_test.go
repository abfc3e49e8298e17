package parse_test

import (
	"slices"
	"testing"

	"simulator/api"
	"simulator/expr"
	"simulator/model"
	"simulator/parse"
	"simulator/stmt"
)

// The functions below say what a tree of the grammar means; they are the second definition of what is read.

// all returns the kids of a tree with a word, in order.
func (t tree) all(word string) []tree {
	var l []tree
	for _, kid := range t.kids {
		if kid.word == word {
			l = append(l, kid)
		}
	}
	return l
}

// names and numbers return what stands directly in a tree.
func (t tree) names() []string {
	var l []string
	for _, kid := range t.all("NAME") {
		l = append(l, kid.token.Text)
	}
	return l
}

func (t tree) numbers() []int {
	var l []int
	for _, kid := range t.all("NUMBER") {
		l = append(l, kid.token.N)
	}
	return l
}

// has reports whether a word or a sign stands directly in a tree.
func (t tree) has(text string) bool { return len(t.all(`"`+text+`"`)) > 0 }

// before and behind return what stands before the first word or sign in a tree, or behind it.
func (t tree) before(text string) tree {
	i := slices.IndexFunc(t.kids, func(kid tree) bool { return kid.word == `"`+text+`"` })
	if i < 0 {
		return t
	}
	return tree{kids: t.kids[:i]}
}

func (t tree) behind(text string) tree {
	i := slices.IndexFunc(t.kids, func(kid tree) bool { return kid.word == `"`+text+`"` })
	if i < 0 {
		return tree{}
	}
	return tree{kids: t.kids[i+1:]}
}

// leaves returns the words of the tokens of a tree.
func (t tree) leaves() []string {
	if t.kids == nil && t.token != (api.Token{}) {
		return []string{t.word}
	}
	var l []string
	for _, kid := range t.kids {
		l = append(l, kid.leaves()...)
	}
	return l
}

func each[T any](l []tree, meaning func(tree) T) []T {
	var result []T
	for _, t := range l {
		result = append(result, meaning(t))
	}
	return result
}

// option returns what belongs to the word of l that stands in a tree.
func option[T any](t tree, l map[string]T) T {
	var none T
	for word, x := range l {
		if t.has(word) {
			return x
		}
	}
	return none
}

func typeOf(t tree) api.Type {
	return option(t, map[string]api.Type{"int": api.Int, "bool": api.Bool, "time": api.Time})
}

func integerOf(t tree) int {
	if t.has("-") {
		return -t.numbers()[0]
	}
	return t.numbers()[0]
}

func modelOf(t tree) api.Model {
	m := api.Model{Name: t.names()[0]}
	m.Params = each(t.all("param"), valueOf)
	m.Sites = each(t.all("site"), siteOf)
	for _, link := range t.all("link") {
		m.Links = append(m.Links, api.Link{From: link.names()[0], To: link.names()[1], Delay: link.numbers()[0]})
	}
	return m
}

func valueOf(t tree) api.Value {
	value := t.all("value")[0]
	v := api.Value{Name: t.names()[0], Type: typeOf(value), N: option(value, map[string]int{"true": 1, "false": 0})}
	if v.Type != api.Bool {
		v.N = integerOf(value.all("INTEGER")[0])
	}
	return v
}

func siteOf(t tree) api.SiteDecl {
	s := api.SiteDecl{Name: t.names()[0]}
	for _, d := range t.all("declaration") {
		if d.has("var") {
			s.Vars = append(s.Vars, valueOf(d))
		}
		s.Resources = append(s.Resources, each(d.all("resource"), resourceOf)...)
		for _, x := range d.all("store") {
			policy := option(x, map[string]api.Policy{"fifo": api.Fifo, "lifo": api.Lifo, "least": api.Least})
			s.Stores = append(s.Stores, api.StoreDecl{Name: x.names()[0], Room: x.numbers()[0], Policy: policy})
		}
		for _, x := range d.all("belt") {
			s.Belts = append(s.Belts, api.BeltDecl{Name: x.names()[0], Length: x.numbers()[0], Step: x.numbers()[1]})
		}
		for _, x := range d.all("list") {
			l := option(x, map[string]*[]string{"queue": &s.Queues, "stream": &s.Streams, "tally": &s.Tallies, "level": &s.Levels, "count": &s.Counts})
			*l = append(*l, x.names()[0])
		}
		s.Routines = append(s.Routines, each(d.all("routine"), routineOf)...)
		s.Starts = append(s.Starts, each(d.all("start"), startOf)...)
		s.Laws = append(s.Laws, each(d.all("law"), lawOf)...)
	}
	return s
}

func resourceOf(t tree) api.ResourceDecl {
	d := api.ResourceDecl{Name: t.names()[0], Units: t.numbers()[0]}
	for _, pair := range t.all("PAIR") {
		d.Shift = append(d.Shift, api.Change{At: pair.numbers()[0], Units: pair.numbers()[1]})
	}
	if t.has("cycle") {
		d.Cycle = t.behind("cycle").numbers()[0]
	}
	if t.has("fault") {
		d.Fault = api.Fault{Stream: t.names()[1], Up: distOf(t.all("dist")[0]), Down: distOf(t.all("dist")[1])}
	}
	return d
}

func routineOf(t tree) api.Routine {
	head, body := t.before(")"), t.behind(")")
	return api.Routine{Name: head.names()[0], Params: each(head.all("field"), fieldOf), Locals: each(body.all("field"), fieldOf), Body: each(body.all("statement"), statementOf)}
}

func fieldOf(t tree) api.Field { return api.Field{Name: t.names()[0], Type: typeOf(t)} }

func startOf(t tree) api.Start {
	s := api.Start{Routine: t.names()[0], At: t.behind("at").numbers()[0]}
	if t.has("every") {
		s.Every, s.Until = t.behind("every").numbers()[0], t.behind("until").numbers()[0]
	}
	for _, x := range t.all("argument") {
		n := option(x, map[string]int{"true": 1, "false": 0})
		for _, y := range x.all("INTEGER") {
			n = integerOf(y)
		}
		s.Args = append(s.Args, n)
	}
	return s
}

func lawOf(t tree) api.Law {
	d := api.Law{Name: t.names()[0], Total: integerOf(t.all("INTEGER")[0])}
	for i, kid := range t.kids {
		if kid.word != "term" {
			continue
		}
		term := api.Term{Coef: append(kid.numbers(), 1)[0], What: kid.names()[0], Name: kid.names()[1]}
		if t.kids[i-1].word == `"-"` {
			term.Coef = -term.Coef
		}
		d.Terms = append(d.Terms, term)
	}
	return d
}

func distOf(t tree) api.Dist {
	d := api.Dist{Op: option(t, map[string]api.DistOp{"const": api.DConst, "uniform": api.DUniform, "table": api.DTable, "sum": api.DSum, "geom": api.DGeom})}
	for _, pair := range t.all("PAIR") {
		d.Values, d.Weights = append(d.Values, pair.numbers()[0]), append(d.Weights, pair.numbers()[1])
	}
	switch n := t.numbers(); len(n) {
	case 1:
		d.A = n[0]
	case 2:
		d.A, d.B = n[0], n[1]
	case 3:
		d.N, d.A, d.B = n[0], n[1], n[2]
	}
	return d
}

func statementOf(t tree) api.Stmt {
	t = t.kids[0]
	if t.word == `"stop"` {
		return api.Stmt{Op: api.SEnd}
	}
	name, e := append(t.names(), "", ""), append(each(t.all("E"), expressionOf), api.Expr{}, api.Expr{})
	args := each(t.before(")").all("E"), expressionOf)
	body := each(t.before("else").all("statement"), statementOf)
	switch t.word {
	case "set":
		return api.Stmt{Op: api.SSet, Name: name[0], E: e[0]}
	case "draw":
		return api.Stmt{Op: api.SDraw, Name: name[0], Of: name[1], Dist: distOf(t.all("dist")[0])}
	case "if":
		return api.Stmt{Op: api.SIf, E: e[0], Body: body, Else: each(t.behind("else").all("statement"), statementOf)}
	case "while":
		return api.Stmt{Op: api.SWhile, E: e[0], Body: body}
	case "hold":
		return api.Stmt{Op: api.SHold, E: e[0]}
	case "seize":
		return api.Stmt{Op: api.SSeize, Name: name[0], E: e[0], F: e[1], Flag: t.has("preempt")}
	case "put":
		return api.Stmt{Op: api.SPut, E: e[0], Name: name[0]}
	case "get":
		return api.Stmt{Op: api.SGet, Of: name[0], Name: name[1]}
	case "send":
		return api.Stmt{Op: api.SSend, Of: name[0], Name: name[1], Args: args, E: e[len(args)]}
	case "spawn":
		return api.Stmt{Op: api.SSpawn, Name: name[0], Args: args, E: e[len(args)]}
	}
	op := option(t, map[string]api.StmtOp{"release": api.SRelease, "signal": api.SSignal, "observe": api.SObserve, "level": api.SLevel, "add": api.SCount, "ride": api.SRide, "wait": api.SWait})
	return api.Stmt{Op: op, Name: name[0], E: e[0]}
}

// expressionOf returns the meaning of any rule of the table of expressions.
func expressionOf(t tree) api.Expr {
	first := t.kids[0]
	switch {
	case t.word == "primary":
		return primaryOf(t)
	case first.word == `"not"`:
		return of(api.XNot, expressionOf(t.kids[1]))
	case first.word == `"-"`:
		return of(api.XNeg, expressionOf(t.kids[1]))
	}
	e := expressionOf(first)
	for i := 1; i < len(t.kids); i += 2 {
		e = combined(e, t.kids[i].word, expressionOf(t.kids[i+1]))
	}
	return e
}

// combined returns the meaning of an operator between two expressions.
func combined(a api.Expr, sign string, b api.Expr) api.Expr {
	switch sign {
	case `">"`:
		return of(api.XLt, b, a)
	case `">="`:
		return of(api.XLe, b, a)
	}
	ops := map[string]api.ExprOp{
		`"or"`: api.XOr, `"and"`: api.XAnd, `"="`: api.XEq, `"!="`: api.XNe, `"<"`: api.XLt, `"<="`: api.XLe,
		`"+"`: api.XAdd, `"-"`: api.XSub, `"*"`: api.XMul, `"/"`: api.XDiv, `"%"`: api.XMod,
	}
	return of(ops[sign], a, b)
}

func primaryOf(t tree) api.Expr {
	kids := each(t.all("E"), expressionOf)
	forms := map[string]api.ExprOp{
		"now": api.XNow, "true": api.XBool, "false": api.XBool, "dur": api.XDur, "ticks": api.XTicks,
		"min": api.XMin, "max": api.XMax, "free": api.XFree, "size": api.XSize, "waiting": api.XWaiting,
	}
	e := api.Expr{Op: option(t, forms), Name: append(t.names(), "")[0], N: append(t.numbers(), 0)[0], Kids: kids}
	switch {
	case t.has("true"):
		e.N = 1
	case e.Op != 0:
	case slices.Equal(t.leaves(), []string{`"("`, `"-"`, "NUMBER", `")"`}):
		return number(-kids[0].Kids[0].N)
	case len(kids) == 1:
		return kids[0]
	case e.Name != "":
		e.Op = api.XName
	default:
		e.Op = api.XInt
	}
	return e
}

// noLine stands for the line that Expr does not return.
const noLine = -1

// judged compares what a function returns for a text with what the grammar, the meaning and Check say, and returns the line and the error.
func judged[T any](t *testing.T, g rules, rule, text string, read func(string) (T, int, api.Errno), meaning func(tree) T, check func(T) api.Errno, same func(a, b T) bool) (int, api.Errno) {
	t.Helper()
	var want T
	a := g.analyze(t, rule, text)
	if a.errno == api.OK {
		want = meaning(a.tree)
		a.errno = check(want)
	}
	if a.errno != api.OK {
		var none T
		want = none
	}
	got, line, errno := read(text)
	if line == noLine {
		line = a.line
	}
	if line != a.line || errno != a.errno || !same(got, want) {
		t.Errorf("%s %q:\n%v, line %d, error %d; want\n%v, line %d, error %d", rule, text, got, line, errno, want, a.line, a.errno)
	}
	return line, errno
}

// judge judges what the function for a rule returns for a text.
func judge(t *testing.T, g rules, rule, text string) (int, api.Errno) {
	t.Helper()
	switch rule {
	case "model":
		return judged(t, g, rule, text, parse.Model, modelOf, model.Check, model.Same)
	case "stmts":
		statements := func(x tree) []api.Stmt { return each(x.all("statement"), statementOf) }
		return judged(t, g, rule, text, parse.Stmts, statements, stmt.Check, stmt.Same)
	}
	expression := func(x tree) api.Expr { return expressionOf(x.kids[0]) }
	read := func(s string) (api.Expr, int, api.Errno) {
		e, errno := parse.Expr(s)
		return e, noLine, errno
	}
	return judged(t, g, rule, text, read, expression, expr.Check, expr.Same)
}
