package parse_test

import (
	"fmt"
	"math/rand/v2"
	"reflect"
	"slices"
	"strings"
	"testing"

	"simulator/api"
	"simulator/expr"
	"simulator/model"
	"simulator/parse"
	"simulator/stmt"
)

// writers returns a writer of plain texts, and one of others.
func writers(seed uint64) []*writer {
	return []*writer{{plain: true}, {r: rand.New(rand.NewPCG(seed, 12))}}
}

// readsExpr, readsStmts and readsModel check that the texts of something are read as that (P12.2), and report how many were short enough.
func readsExpr(t *testing.T, w *writer, e api.Expr) int {
	t.Helper()
	s := exprText(w, e)
	if len(s) > maxText {
		return 0
	}
	if got, errno := parse.Expr(s); !expr.Same(got, e) || errno != api.OK {
		t.Errorf("%q: %v, error %d; want %v", s, got, errno, e)
	}
	return 1
}

func readsStmts(t *testing.T, w *writer, l []api.Stmt) int {
	t.Helper()
	s := stmtsText(w, l)
	if len(s) > maxText {
		return 0
	}
	if got, line, errno := parse.Stmts(s); !stmt.Same(got, l) || line != 0 || errno != api.OK {
		t.Errorf("%q: %v, line %d, error %d; want %v", s, got, line, errno, l)
	}
	return 1
}

func readsModel(t *testing.T, w *writer, m api.Model) int {
	t.Helper()
	s := modelText(w, m)
	if len(s) > maxText {
		return 0
	}
	if got, line, errno := parse.Model(s); !model.Same(got, m) || line != 0 || errno != api.OK {
		t.Errorf("%q: %v, line %d, error %d; want %v", s, got, line, errno, m)
	}
	return 1
}

// allOf returns all expressions with so many nodes, of few leaves.
func allOf(nodes int) []api.Expr {
	if nodes == 1 {
		return []api.Expr{word("x"), number(1), number(-1)}
	}
	var l []api.Expr
	for op := api.XNeg; op <= api.XTicks; op++ {
		for _, kid := range allOf(nodes - 1) {
			l = append(l, of(op, kid))
		}
	}
	for op := api.XAdd; op <= api.XMax; op++ {
		for left := 1; left < nodes-1; left++ {
			for _, a := range allOf(left) {
				for _, b := range allOf(nodes - 1 - left) {
					l = append(l, of(op, a, b))
				}
			}
		}
	}
	return l
}

// TestSmallExpressions reads the texts of all small expressions.
func TestSmallExpressions(t *testing.T) {
	for nodes := range 5 {
		for _, e := range allOf(nodes + 1) {
			for _, w := range writers(uint64(nodes)) {
				readsExpr(t, w, e)
			}
		}
	}
}

// TestMadeTexts reads the texts of models, statements and expressions that are made by chance.
func TestMadeTexts(t *testing.T) {
	m := maker{r: rand.New(rand.NewPCG(12, 2))}
	for i := range 3000 {
		m.made = 0
		e, l := m.expr(60, 12), m.stmts(200, 12)
		if expr.Check(e) != api.OK || stmt.Check(l) != api.OK {
			t.Fatal(e, l)
		}
		for _, w := range writers(uint64(i)) {
			readsExpr(t, w, e)
			readsStmts(t, w, l)
		}
	}
	read := 0
	for i := range 1000 {
		m.made = 0
		x := m.model()
		if errno := model.Check(x); errno != api.OK {
			t.Fatal(errno, x)
		}
		for _, w := range writers(uint64(i)) {
			read += readsModel(t, w, x)
		}
	}
	if read < 1000 {
		t.Error("only", read, "texts were short enough")
	}
}

// TestFullLists reads texts with lists that are as long, and with statements and expressions that are as large and as deep as they can be.
func TestFullLists(t *testing.T) {
	each := func(s string, n int) []string {
		var l []string
		for i := range n {
			l = append(l, fmt.Sprint(s, i))
		}
		return l
	}
	params, links := api.Model{Name: "m", Sites: []api.SiteDecl{{Name: "a"}}}, api.Model{Name: "m"}
	decls := api.SiteDecl{Name: "a", Queues: each("q", 32), Streams: each("s", 32), Tallies: each("t", 32), Levels: each("l", 32), Counts: each("c", 32)}
	for i, s := range each("x", 32) {
		params.Params = append(params.Params, api.Value{Name: s, Type: api.Int, N: -maxInt})
		decls.Vars = append(decls.Vars, api.Value{Name: "v" + s, Type: api.Time, N: maxTime})
		decls.Resources = append(decls.Resources, api.ResourceDecl{Name: "r" + s, Units: 1000})
		decls.Stores = append(decls.Stores, api.StoreDecl{Name: "d" + s, Room: 1000, Policy: api.Least})
		decls.Belts = append(decls.Belts, api.BeltDecl{Name: "b" + s, Length: 1000, Step: 1000})
		decls.Starts = append(decls.Starts, api.Start{Routine: "f0", At: i})
		decls.Laws = append(decls.Laws, api.Law{Name: s, Terms: []api.Term{{Coef: 1, What: "counted", Name: "c0"}}})
	}
	for i, s := range each("f", 16) {
		links.Sites = append(links.Sites, api.SiteDecl{Name: s})
		links.Links = append(links.Links, api.Link{From: s, To: fmt.Sprint("f", (i+1)%16), Delay: maxTime}, api.Link{From: s, To: fmt.Sprint("f", (i+2)%16), Delay: 1})
		decls.Routines = append(decls.Routines, api.Routine{Name: s})
	}
	large := api.SiteDecl{Name: "a", Counts: []string{"c"}, Streams: []string{"s"}, Resources: []api.ResourceDecl{{Name: "r", Cycle: 20, Fault: api.Fault{Stream: "s", Up: api.Dist{Op: api.DTable, Values: slices.Repeat([]int{maxTime}, 20), Weights: slices.Repeat([]int{1000}, 20)}, Down: always(0)}}}}
	for at := range 20 {
		large.Resources[0].Shift = append(large.Resources[0].Shift, api.Change{At: at, Units: 1000})
	}
	large.Laws = []api.Law{{Name: "k", Total: maxInt, Terms: slices.Repeat([]api.Term{{Coef: -1000, What: "counted", Name: "c"}}, 8)}}
	large.Routines = []api.Routine{{Name: "f", Body: slices.Repeat([]api.Stmt{{Op: api.SEnd}}, 200)}}
	for i, s := range each("x", 16) {
		f := api.Field{Name: s, Type: api.Type(1 + i%3)}
		if i < 6 {
			large.Routines[0].Params = append(large.Routines[0].Params, f)
		} else {
			large.Routines[0].Locals = append(large.Routines[0].Locals, f)
		}
	}
	large.Starts = []api.Start{{Routine: "f", Args: []int{1, 1, 1, -maxInt, 0, maxTime}, At: maxTime, Every: maxTime, Until: maxTime}}
	for i, m := range []api.Model{params, links, {Name: "m", Sites: []api.SiteDecl{decls}}, {Name: strings.Repeat("m", 24), Sites: []api.SiteDecl{large}}} {
		if errno := model.Check(m); errno != api.OK {
			t.Fatal(i, errno)
		}
		for _, w := range writers(uint64(i)) {
			if readsModel(t, w, m) == 0 {
				t.Error(i)
			}
		}
	}
	readsLargest(t)
}

// ofNodes returns an expression with so many nodes.
func ofNodes(n int) api.Expr {
	switch n {
	case 1:
		return number(-1)
	case 2:
		return neg(number(1))
	}
	left := (n - 1) / 2
	return of(api.XSub, ofNodes(left), ofNodes(n-1-left))
}

// readsLargest reads the texts of the largest and of the deepest expressions and statements.
func readsLargest(t *testing.T) {
	t.Helper()
	narrow, deep := number(-1), []api.Stmt(nil)
	for range 11 {
		narrow = of(api.XTicks, narrow)
	}
	for i := range 12 {
		deep = []api.Stmt{{Op: api.SIf, E: word("a"), Body: deep}, {Op: api.SWhile, E: word("b")}, {Op: api.SEnd}}
		if i%2 == 0 {
			deep[0].Body, deep[0].Else = nil, deep[0].Body
		}
	}
	large := ofNodes(60)
	if expr.Check(large) != api.OK || expr.Check(narrow) != api.OK || expr.Depth(narrow) != 12 || stmt.Check(deep) != api.OK || stmt.Depth(deep) != 12 {
		t.Fatal(large, narrow, deep)
	}
	for i := range uint64(20) {
		for _, w := range writers(i) {
			readsStmts(t, w, deep)
			for _, e := range []api.Expr{large, narrow} {
				readsExpr(t, w, e)
				readsStmts(t, w, []api.Stmt{{Op: api.SSpawn, Name: "f", E: e, Args: slices.Repeat([]api.Expr{e}, 6)}})
			}
		}
	}
}

// result returns what a function returns for a text: what it reads, the line (noLine for Expr), and the error.
func result(rule, text string) (any, int, api.Errno) {
	switch rule {
	case "model":
		m, line, errno := parse.Model(text)
		return m, line, errno
	case "stmts":
		l, line, errno := parse.Stmts(text)
		return l, line, errno
	}
	e, errno := parse.Expr(text)
	return e, noLine, errno
}

// wrongLines returns texts with errors of all kinds.
func wrongLines(rule string) []string {
	l := []string{"", "\n", "if", "a b\nc", "(\n", "a\n$", "hold\nhold\n01", "stop\nif a\nhold hold\nend", "if a\nstop\nelse", "model m\n", "model m\nsite a\nqueue\nend\nend", "model m\nsite a\nroutine f ()\nstop\nelse\nend\nend\nend", "model m\nend\nend\n", "a <\nb", "stop\nend\nstop"}
	l = append(l, "spawn f (1, 2, 3, 4, 5, 6, 7) after 1", "model m\nend", "model m\nsite a\nend\nsite a\nend\nend\n", strings.Repeat("not ", 12)+"a")
	for i, s := range samples(rule) {
		lines := strings.Split(s, "\n")
		l = append(l, strings.Join(slices.Insert(slices.Clone(lines), i%len(lines), "down"), "\n"), strings.Join(slices.Delete(slices.Clone(lines), i%len(lines), i%len(lines)+1), "\n"), strings.TrimRight(s, "abcdefghijklmnopqrstuvwxyz0123456789()"))
	}
	return l
}

// TestBlankLines puts lines without tokens between the lines of texts, and comments behind their tokens (P12.3).
func TestBlankLines(t *testing.T) {
	r := rand.New(rand.NewPCG(12, 3))
	for _, rule := range []string{"expr", "stmts", "model"} {
		for _, text := range append(samples(rule), wrongLines(rule)...) {
			want, wantLine, wantErrno := result(rule, text)
			for range 5 {
				// numbers has the new number of each line.
				numbers, number := []int{0}, 0
				var s strings.Builder
				for i, line := range strings.Split(text, "\n") {
					if i > 0 {
						s.WriteByte('\n')
					}
					for range r.IntN(3) {
						s.WriteString(pick(r, "\n", "  \n", "\t\n", "# hold $\n", " #\n"))
						number++
					}
					number++
					numbers = append(numbers, number)
					s.WriteString(line + pick(r, "", " ", "#", "\t# 01 end"))
				}
				line := wantLine
				if line > 0 {
					line = numbers[line]
				}
				got, gotLine, errno := result(rule, s.String())
				if !reflect.DeepEqual(got, want) || gotLine != line || errno != wantErrno {
					t.Errorf("%s %q: line %d, error %d; want those of %q: line %d, error %d", rule, s.String(), gotLine, errno, text, line, wantErrno)
				}
			}
		}
	}
}

// TestShorterTexts reads texts up to the line of their error of syntax, and with other lines behind it (P12.4).
func TestShorterTexts(t *testing.T) {
	g := readGrammar()
	seen := 0
	for _, rule := range []string{"expr", "stmts", "model"} {
		for _, text := range wrongLines(rule) {
			none, line, errno := result(rule, text)
			if errno != api.ErrSyntax {
				continue
			}
			seen++
			// Expr does not return the line.
			end := g.analyze(t, rule, text).line
			lines := strings.Split(text, "\n")
			shorter := []string{strings.Join(lines[:end], "\n")}
			for _, rest := range []string{"", "stop", "end\nend\nend\nend", ")\n)", "\n\n"} {
				// In the last line the error can be that the text ends.
				if end < len(lines) {
					shorter = append(shorter, shorter[0]+"\n"+rest)
				}
			}
			for _, s := range shorter {
				if got, gotLine, gotErrno := result(rule, s); !reflect.DeepEqual(got, none) || gotLine != line || gotErrno != errno {
					t.Errorf("%s %q: line %d, error %d; want those of %q: line %d, error %d", rule, s, gotLine, gotErrno, text, line, errno)
				}
			}
		}
	}
	if seen < 300 {
		t.Error("only", seen, "errors of syntax")
	}
}

// blocks notes the memory of all lists in x.
func blocks(x reflect.Value, note func(from, to uintptr)) {
	switch x.Kind() {
	case reflect.Slice:
		if x.Cap() > 0 {
			note(x.Pointer(), x.Pointer()+uintptr(x.Cap())*x.Type().Elem().Size())
		}
		for i := range x.Len() {
			blocks(x.Index(i), note)
		}
	case reflect.Struct:
		for i := range x.NumField() {
			blocks(x.Field(i), note)
		}
	}
}

// TestMemory checks that no lists of results share memory, and that nothing is kept between calls.
func TestMemory(t *testing.T) {
	for _, rule := range []string{"expr", "stmts", "model"} {
		for _, text := range samples(rule) {
			first, _, _ := result(rule, text)
			second, _, _ := result(rule, text)
			if !reflect.DeepEqual(first, second) {
				t.Errorf("%q is read as %v and as %v", text, first, second)
			}
			var l [][2]uintptr
			note := func(from, to uintptr) { l = append(l, [2]uintptr{from, to}) }
			blocks(reflect.ValueOf(first), note)
			blocks(reflect.ValueOf(second), note)
			slices.SortFunc(l, func(a, b [2]uintptr) int { return int(a[0]) - int(b[0]) })
			for i := range l {
				if i > 0 && l[i][0] < l[i-1][1] {
					t.Errorf("lists of %q share memory", text)
				}
			}
		}
	}
}
