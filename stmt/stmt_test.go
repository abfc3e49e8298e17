package stmt_test

import (
	"fmt"
	"maps"
	"math"
	"math/rand/v2"
	"reflect"
	"slices"
	"strconv"
	"strings"
	"testing"

	"simulator/api"
	"simulator/dist"
	"simulator/expr"
	"simulator/names"
	"simulator/stmt"
)

// The limits of the document, and not those of the program.
const (
	maxInt  = 1000000000000
	maxBody = 200
	maxNest = 12
	maxArgs = 6
)

func number(n int) api.Expr                           { return api.Expr{Op: api.XInt, N: n} }
func word(s string) api.Expr                          { return api.Expr{Op: api.XName, Name: s} }
func now() api.Expr                                   { return api.Expr{Op: api.XNow} }
func of(op api.ExprOp, kids ...api.Expr) api.Expr     { return api.Expr{Op: op, Kids: kids} }
func ask(op api.ExprOp, s string) api.Expr            { return api.Expr{Op: op, Name: s} }
func dur(n int) api.Expr                              { return of(api.XDur, number(n)) }
func texts(l ...string) []string                      { return l }
func pick[T any](r *rand.Rand, l []T) T               { return l[r.IntN(len(l))] }
func set(s api.Stmt, change func(*api.Stmt)) api.Stmt { change(&s); return s }
func end() api.Stmt                                   { return api.Stmt{Op: api.SEnd} }
func hold(n int) api.Stmt                             { return api.Stmt{Op: api.SHold, E: dur(n)} }
func loop(l ...api.Stmt) api.Stmt                     { return api.Stmt{Op: api.SWhile, E: now(), Body: list(l...)} }

// args and list have new lists; without elements these are empty, but not nil.
func args(l ...api.Expr) []api.Expr { return append([]api.Expr{}, l...) }
func list(l ...api.Stmt) []api.Stmt { return append([]api.Stmt{}, l...) }

func choice(body, orElse []api.Stmt) api.Stmt {
	return api.Stmt{Op: api.SIf, E: now(), Body: body, Else: orElse}
}

// The rows of the chapter's table: forms, and the fields that they use.
const table = `1 7 8 12 15 16 17: Name E
2: Name Of Dist
3: E Body Else
4: E Body
5: E
6: Name E F Flag
9: Name Of
10 11: Name
13: Name Of E Args
14: Name E Args
18:`

// oracle has the fields of each form.
type oracle map[api.StmtOp][]string

func newOracle() oracle {
	o := oracle{}
	for line := range strings.Lines(table) {
		forms, fields, _ := strings.Cut(line, ":")
		for _, form := range strings.Fields(forms) {
			var op api.StmtOp
			fmt.Sscan(form, &op)
			o[op] = strings.Fields(fields)
		}
	}
	return o
}

// write writes a text of a value that only equal ones have; nil and empty lists have the same one.
func write(b *strings.Builder, v reflect.Value) {
	switch v.Kind() {
	case reflect.Struct:
		b.WriteByte('{')
		for i := range v.NumField() {
			write(b, v.Field(i))
		}
		b.WriteByte('}')
	case reflect.Slice:
		b.WriteByte('[')
		for i := range v.Len() {
			write(b, v.Index(i))
		}
		b.WriteByte(']')
	case reflect.String:
		b.WriteString(" " + strconv.Quote(v.String()))
	case reflect.Int:
		b.WriteString(" " + strconv.FormatInt(v.Int(), 10))
	default:
		fmt.Fprint(b, " ", v.Interface())
	}
}

// show is a text of x that only equal values have.
func show(x any) string {
	var b strings.Builder
	write(&b, reflect.ValueOf(x))
	return b.String()
}

// brief is a text that is short enough for a message.
func brief(l []api.Stmt) string {
	if count := len(flat(l)); count > 20 {
		return fmt.Sprintf("a list of %d statements", count)
	}
	s := strings.NewReplacer(" 0", "", ` ""`, "", " false", "", "[]", "", "{}", "").Replace(show(l))
	return s[:min(len(s), 2000)]
}

// isZero tells whether a field is zero, as R3 says.
func isZero(v reflect.Value) bool {
	if v.IsZero() {
		return true
	}
	var a, b strings.Builder
	write(&a, v)
	write(&b, reflect.Zero(v.Type()))
	return a.String() == b.String()
}

// copyOf is a value in new memory, with empty lists in place of nil.
func copyOf(v reflect.Value) reflect.Value {
	x := reflect.New(v.Type()).Elem()
	x.Set(v)
	switch v.Kind() {
	case reflect.Struct:
		for i := range v.NumField() {
			x.Field(i).Set(copyOf(v.Field(i)))
		}
	case reflect.Slice:
		x.Set(reflect.MakeSlice(v.Type(), v.Len(), v.Len()))
		for i := range v.Len() {
			x.Index(i).Set(copyOf(v.Index(i)))
		}
	}
	return x
}

// copied is a list in new memory.
func copied(l []api.Stmt) []api.Stmt { return copyOf(reflect.ValueOf(l)).Interface().([]api.Stmt) }

// place is a statement with its level.
type place struct {
	s     api.Stmt
	level int
}

// flat has the statements of a list in order, with their levels; it does without recursion.
func flat(l []api.Stmt) []place {
	var all, todo []place
	push := func(l []api.Stmt, level int) {
		for _, s := range slices.Backward(l) {
			todo = append(todo, place{s, level})
		}
	}
	push(l, 1)
	for len(todo) > 0 {
		last := todo[len(todo)-1]
		todo = todo[:len(todo)-1]
		all = append(all, last)
		push(last.s.Else, last.level+1)
		push(last.s.Body, last.level+1)
	}
	return all
}

// depth is the definition of Depth.
func depth(all []place) int {
	most := 0
	for _, p := range all {
		most = max(most, p.level)
	}
	return most
}

// field is the definition of the check of a field that is used.
func field(s api.Stmt, name string) api.Errno {
	switch name {
	case "Name":
		return names.Check(s.Name)
	case "Of":
		return names.Check(s.Of)
	case "E":
		return expr.Check(s.E)
	case "F":
		return expr.Check(s.F)
	case "Dist":
		return dist.Check(s.Dist)
	case "Args":
		if len(s.Args) > maxArgs {
			return api.ErrLong
		}
		for _, e := range s.Args {
			if errno := expr.Check(e); errno != api.OK {
				return errno
			}
		}
	}
	return api.OK
}

// one is the definition of the check of a statement without its Body and its Else.
func (o oracle) one(s api.Stmt) api.Errno {
	used, known := o[s.Op]
	if !known {
		return api.ErrArg
	}
	for _, name := range fieldNames() {
		if !slices.Contains(used, name) && !isZero(reflect.ValueOf(s).FieldByName(name)) {
			return api.ErrArg
		}
	}
	for _, name := range texts("Name", "Of", "E", "F", "Args", "Dist") {
		if errno := field(s, name); slices.Contains(used, name) && errno != api.OK {
			return errno
		}
	}
	return api.OK
}

// check is the definition of Check.
func (o oracle) check(l []api.Stmt) api.Errno {
	all := flat(l)
	if len(all) > maxBody {
		return api.ErrLong
	}
	if depth(all) > maxNest {
		return api.ErrDeep
	}
	for _, p := range all {
		if errno := o.one(p.s); errno != api.OK {
			return errno
		}
	}
	return api.OK
}

// targets is the definition of Targets.
func targets(l []api.Stmt) [][2]string {
	var all [][2]string
	for _, p := range flat(l) {
		if p.s.Op == 13 {
			all = append(all, [2]string{p.s.Of, p.s.Name})
		}
		if p.s.Op == 14 {
			all = append(all, [2]string{"", p.s.Name})
		}
	}
	return all
}

// uses is the definition of Uses.
func uses(l []api.Stmt) []string {
	found := map[string]bool{}
	for _, p := range flat(l) {
		if slices.Contains([]api.StmtOp{6, 7, 8, 9, 10, 11, 12, 15, 16, 17}, p.s.Op) {
			found[p.s.Name] = true
		}
		if p.s.Op == 2 {
			found[p.s.Of] = true
		}
	}
	return slices.Sorted(maps.Keys(found))
}

// test compares all that is promised of one list with the definitions.
func (o oracle) test(t *testing.T, l []api.Stmt) {
	t.Helper()
	if got, want := stmt.Check(l), o.check(l); got != want {
		t.Fatalf("Check(%s) = %v, not %v", brief(l), got, want)
	}
	all := flat(l)
	if got := stmt.Count(l); got != len(all) {
		t.Fatalf("Count(%s) = %d, not %d", brief(l), got, len(all))
	}
	if got, want := stmt.Depth(l), depth(all); got != want {
		t.Fatalf("Depth(%s) = %d, not %d", brief(l), got, want)
	}
	if got, want := stmt.Targets(l), targets(l); !slices.Equal(got, want) {
		t.Fatalf("Targets(%s) = %q, not %q", brief(l), got, want)
	}
	if got, want := stmt.Uses(l), uses(l); !slices.Equal(got, want) {
		t.Fatalf("Uses(%s) = %q, not %q", brief(l), got, want)
	}
	if !stmt.Same(l, copied(l)) {
		t.Fatalf("%s is not equal to its copy", brief(l))
	}
}

// testError compares the result of Check with the one that is wanted.
func testError(t *testing.T, l []api.Stmt, want api.Errno) {
	t.Helper()
	if got := stmt.Check(l); got != want {
		t.Errorf("Check(%s) = %v, not %v", brief(l), got, want)
	}
}

// chain has n nodes of the form XNot around e.
func chain(n int, e api.Expr) api.Expr {
	for range n {
		e = of(api.XNot, e)
	}
	return e
}

// bush is an expression of 2 n - 1 nodes: sums of n numbers in few levels.
func bush(n int) api.Expr {
	row := slices.Repeat(args(number(1)), n)
	for len(row) > 1 {
		row = append(row[2:], of(api.XAdd, row[0], row[1]))
	}
	return row[0]
}

// fieldNames has the fields of a statement beside its form.
func fieldNames() []string {
	return texts("Name", "Of", "E", "F", "Args", "Dist", "Flag", "Body", "Else")
}

// whole has a value for each field.
func whole(op api.StmtOp) api.Stmt {
	return api.Stmt{
		Op: op, Name: "a", Of: "b", E: number(1), F: number(2), Args: args(number(3), now()),
		Dist: api.Dist{Op: api.DConst, A: 4}, Flag: true, Body: list(end()), Else: list(hold(1), end()),
	}
}

// with is a statement that has values for the given fields only.
func with(op api.StmtOp, fields []string) api.Stmt {
	s := api.Stmt{Op: op}
	for _, name := range fields {
		put(&s, name, reflect.ValueOf(whole(op)).FieldByName(name).Interface())
	}
	return s
}

// put puts a value into a field.
func put(s *api.Stmt, name string, x any) {
	reflect.ValueOf(s).Elem().FieldByName(name).Set(reflect.ValueOf(x))
}

// forms has an accepted statement of each form, with values for all its fields.
func (o oracle) forms() []api.Stmt {
	var all []api.Stmt
	for op := api.SSet; op <= api.SEnd; op++ {
		all = append(all, with(op, o[op]))
	}
	return all
}

// someOps has all forms, and numbers that are none.
func someOps() []api.StmtOp {
	l := []api.StmtOp{math.MinInt, -1 << 32, math.MaxInt, 1 << 32, 1<<32 + 1, 1<<32 + 18, 256 + 1, 256 + 18, 64, 100}
	for op := api.StmtOp(-20); op <= 40; op++ {
		l = append(l, op)
	}
	return l
}

// someNames has names that are accepted, and texts that are none.
func someNames() []any {
	return []any{"", "a", "z_9", strings.Repeat("a", 24), strings.Repeat("a", 25), "if", "hold", "A", "9", "_a", "a b", "a.b", "a\x00", "\xff", "ü"}
}

// someExprs has expressions that are zero, accepted, and rejected with each error.
func someExprs() []any {
	return []any{
		api.Expr{}, api.Expr{Kids: args()}, number(0), number(-maxInt), now(), word("v"), ask(api.XFree, "r"), of(api.XAdd, word("v"), dur(2)), chain(11, now()), bush(30),
		api.Expr{Name: "a"}, api.Expr{N: 1}, of(0, api.Expr{}), of(api.XAdd, now()), api.Expr{Op: api.XSlot}, api.Expr{Op: -1}, number(maxInt + 1), api.Expr{Op: api.XBool, N: 2},
		word("if"), word(""), ask(api.XSize, "A"), chain(12, now()), bush(31), of(api.XMin, now(), of(api.XNeg, word("end"))),
	}
}

// someArgs has lists of arguments that are empty, accepted, and rejected with each error.
func someArgs() []any {
	six := slices.Repeat(args(number(1)), maxArgs)
	l := []any{args(), []api.Expr(nil), six[:1], six[:5], six, append(slices.Clone(six), now()), make([]api.Expr, maxArgs+1), make([]api.Expr, 1)}
	for _, bad := range args(api.Expr{}, number(maxInt+1), word("if"), chain(12, now()), bush(31)) {
		for i := range maxArgs {
			wrong := slices.Clone(six)
			wrong[i] = bad
			l = append(l, wrong, append(slices.Clone(wrong), now()))
		}
	}
	return append(l, args(word("if"), api.Expr{}), args(api.Expr{}, word("if")), args(now(), number(maxInt+1), bush(31), word("")))
}

// someDists has distributions that are zero, accepted, and rejected with each error.
func someDists() []any {
	many := make([]int, 21)
	return []any{
		api.Dist{}, api.Dist{Values: []int{}, Weights: []int{}}, api.Dist{Op: api.DConst}, api.Dist{Op: api.DConst, A: 4}, api.Dist{Op: api.DUniform, A: 1, B: 6},
		api.Dist{Op: api.DTable, Values: []int{9, 2}, Weights: []int{1, 3}}, api.Dist{Op: api.DSum, N: 2, B: 3}, api.Dist{Op: api.DGeom, A: 2, B: 5},
		api.Dist{A: 1}, api.Dist{B: 1}, api.Dist{N: 1}, api.Dist{Values: []int{0}}, api.Dist{Weights: []int{0}}, api.Dist{Op: -1}, api.Dist{Op: 6}, api.Dist{Op: api.DConst, B: 1},
		api.Dist{Op: api.DConst, A: -1}, api.Dist{Op: api.DUniform, A: 3, B: 2}, api.Dist{Op: api.DTable}, api.Dist{Op: api.DTable, Values: []int{1}}, api.Dist{Op: api.DTable, Values: many, Weights: many},
	}
}

// someLists has lists that are empty, accepted, and rejected.
func someLists() []any {
	return []any{list(), []api.Stmt(nil), list(end()), list(hold(1), end()), list(choice(nil, list(end()))), list(api.Stmt{}), list(set(end(), func(s *api.Stmt) { s.Name = "a" })), list(end(), api.Stmt{Op: api.SRide, Name: "if"})}
}

// someValues has values of each field.
func someValues() map[string][]any {
	return map[string][]any{
		"Name": someNames(), "Of": someNames(), "E": someExprs(), "F": someExprs(), "Args": someArgs(), "Dist": someDists(), "Flag": {false, true}, "Body": someLists(), "Else": someLists(),
	}
}

// places has lists that have s at several places.
func places(s api.Stmt) [][]api.Stmt {
	return [][]api.Stmt{
		list(s), list(end(), s), list(s, end()), list(loop(s)), list(choice(list(s), nil)), list(choice(nil, list(s))), list(choice(list(end()), list(end(), s))),
		list(end(), loop(choice(nil, list(loop(hold(2), s, end())))), end()),
	}
}

// P10.1

func TestExamplesOfCheck(t *testing.T) {
	desk := api.Stmt{Op: api.SSeize, Name: "desk", E: number(1), F: number(2)}
	l := list(desk, hold(5))
	testError(t, l, api.OK)
	if stmt.Count(l) != 2 || stmt.Depth(l) != 1 || !slices.Equal(stmt.Uses(l), texts("desk")) {
		t.Errorf("%d, %d, %q", stmt.Count(l), stmt.Depth(l), stmt.Uses(l))
	}
	long := slices.Repeat(args(now()), maxArgs)
	for _, c := range []struct {
		s    api.Stmt
		want api.Errno
	}{
		{set(hold(5), func(s *api.Stmt) { s.Of = "v" }), api.ErrArg},
		{api.Stmt{Op: api.SRelease, Name: "hold", E: number(1)}, api.ErrName},
		{api.Stmt{Op: api.SRelease, Name: "desk", E: number(1)}, api.OK},
		{api.Stmt{Op: api.SRelease, Name: "desk"}, api.ErrArg},
		{api.Stmt{}, api.ErrArg},
		{api.Stmt{Op: 19}, api.ErrArg},
		{api.Stmt{Op: -1}, api.ErrArg},
		{api.Stmt{Op: -api.SEnd}, api.ErrArg},
		{end(), api.OK},
		{api.Stmt{Op: api.SEnd, Name: "v"}, api.ErrArg},
		{api.Stmt{Op: api.SEnd, E: api.Expr{Kids: args()}, Args: args(), Dist: api.Dist{Values: []int{}}, Body: list(), Else: list()}, api.OK},
		{api.Stmt{Op: api.SHold}, api.ErrArg},
		{api.Stmt{Op: api.SHold, E: word("if")}, api.ErrName},
		// Types and what exists do not matter here.
		{api.Stmt{Op: api.SHold, E: number(5)}, api.OK},
		{api.Stmt{Op: api.SSet, Name: "v", E: word("none")}, api.OK},
		{api.Stmt{Op: api.SWhile, E: number(1)}, api.OK},
		{api.Stmt{Op: api.SWhile, E: number(1), Else: list(end())}, api.ErrArg},
		{api.Stmt{Op: api.SIf, E: number(1)}, api.OK},
		{api.Stmt{Op: api.SIf}, api.ErrArg},
		{api.Stmt{Op: api.SIf, E: number(1), Body: list(), Else: list()}, api.OK},
		{api.Stmt{Op: api.SIf, Name: "v", E: number(1)}, api.ErrArg},
		{api.Stmt{Op: api.SSeize, Name: "desk", E: number(1)}, api.ErrArg},
		{api.Stmt{Op: api.SSeize, Name: "desk", E: number(1), F: number(maxInt + 1)}, api.ErrRange},
		{api.Stmt{Op: api.SSeize, Name: "desk", E: number(1), F: number(-maxInt), Flag: true}, api.OK},
		{api.Stmt{Op: api.SDraw, Name: "v", Of: "r", Dist: api.Dist{Op: api.DConst}}, api.OK},
		{api.Stmt{Op: api.SDraw, Name: "v", Of: "r"}, api.ErrArg},
		{api.Stmt{Op: api.SDraw, Name: "v", Of: "r", Dist: api.Dist{Op: api.DTable}}, api.ErrShort},
		{api.Stmt{Op: api.SDraw, Name: "v", Of: "r", Dist: api.Dist{Op: api.DTable, Values: []int{1}}}, api.ErrForm},
		{api.Stmt{Op: api.SDraw, Name: "v", Dist: api.Dist{Op: api.DConst}}, api.ErrName},
		{api.Stmt{Op: api.SGet, Name: "shelf", Of: "v"}, api.OK},
		{api.Stmt{Op: api.SGet, Name: "shelf"}, api.ErrName},
		{api.Stmt{Op: api.SGet, Of: "v"}, api.ErrName},
		{api.Stmt{Op: api.SRide, Name: "line"}, api.OK},
		{api.Stmt{Op: api.SWait, Name: "hall", Of: "v"}, api.ErrArg},
		{api.Stmt{Op: api.SSend, Name: "box", Of: "pack", E: dur(0), Args: long}, api.OK},
		{api.Stmt{Op: api.SSend, Name: "box", Of: "pack", E: dur(0), Args: append(long, now())}, api.ErrLong},
		{api.Stmt{Op: api.SSend, Name: "box", E: dur(0)}, api.ErrName},
		{api.Stmt{Op: api.SSend, Name: "box", Of: "pack"}, api.ErrArg},
		{api.Stmt{Op: api.SSpawn, Name: "box", E: dur(0), Args: long}, api.OK},
		{api.Stmt{Op: api.SSpawn, Name: "box", E: dur(0), Args: append(long, now())}, api.ErrLong},
		{api.Stmt{Op: api.SSpawn, Name: "box", Of: "pack", E: dur(0)}, api.ErrArg},
		{api.Stmt{Op: api.SSpawn, Name: "box", E: dur(0), Args: args(now(), chain(12, now()))}, api.ErrDeep},
	} {
		for _, l := range places(c.s) {
			testError(t, l, c.want)
		}
	}
	testError(t, nil, api.OK)
	testError(t, list(), api.OK)
	testError(t, list(end())[:0], api.OK)
}

// subset has the fields whose bits are 1.
func subset(bits int) []string {
	var l []string
	for i, name := range fieldNames() {
		if bits>>i&1 == 1 {
			l = append(l, name)
		}
	}
	return l
}

func TestEachFormWithEachSetOfFields(t *testing.T) {
	o := newOracle()
	accepted := map[api.StmtOp]int{}
	for _, op := range someOps() {
		for bits := range 1 << len(fieldNames()) {
			l := list(with(op, subset(bits)))
			if op >= -1 && op <= 20 {
				o.test(t, l)
			}
			if stmt.Check(l) == api.OK {
				accepted[op]++
			}
		}
	}
	// Flag, Args, Body and Else can be zero; other fields that are used cannot.
	want := map[api.StmtOp]int{}
	for op, fields := range o {
		want[op] = 1
		for _, name := range texts("Flag", "Args", "Body", "Else") {
			if slices.Contains(fields, name) {
				want[op] *= 2
			}
		}
	}
	if len(want) != 18 || !maps.Equal(accepted, want) {
		t.Errorf("sets of fields that are accepted: %v, not %v", accepted, want)
	}
}

func TestEachFormWithEachOtherFieldNotZero(t *testing.T) {
	o := newOracle()
	nonzero := map[string][]any{
		"Name": {"a", "if", "\x00"}, "Of": {"a", "if", " "}, "E": {now(), api.Expr{Op: -1}, api.Expr{N: -1}, api.Expr{Name: " "}, of(0, api.Expr{})}, "F": {now(), api.Expr{Op: 1}, api.Expr{N: 1}, api.Expr{Name: "a"}, of(0, api.Expr{})},
		"Args": {args(now()), make([]api.Expr, 1), make([]api.Expr, maxArgs+1)}, "Dist": {api.Dist{Op: 1}, api.Dist{Op: -1}, api.Dist{A: 1}, api.Dist{B: 1}, api.Dist{N: -1}, api.Dist{Values: []int{0}}, api.Dist{Weights: []int{0}}},
		"Flag": {true}, "Body": {list(end()), make([]api.Stmt, 1)}, "Else": {list(end()), make([]api.Stmt, 1)},
	}
	empty := api.Stmt{E: api.Expr{Kids: args()}, F: api.Expr{Kids: args()}, Args: args(), Dist: api.Dist{Values: []int{}, Weights: []int{}}, Body: list(), Else: list()}
	for _, s := range o.forms() {
		testError(t, list(s), api.OK)
		for _, name := range fieldNames() {
			if slices.Contains(o[s.Op], name) {
				continue
			}
			for _, x := range nonzero[name] {
				for _, l := range places(set(s, func(s *api.Stmt) { put(s, name, x) })) {
					testError(t, l, api.ErrArg)
				}
			}
			x := reflect.ValueOf(empty).FieldByName(name).Interface()
			testError(t, list(set(s, func(s *api.Stmt) { put(s, name, x) })), api.OK)
		}
	}
}

func TestEachValueOfEachField(t *testing.T) {
	o := newOracle()
	values := someValues()
	for _, op := range append(slices.Sorted(maps.Keys(o)), 0, 19, -3) {
		for _, name := range fieldNames() {
			for _, x := range values[name] {
				for _, l := range places(set(with(op, o[op]), func(s *api.Stmt) { put(s, name, x) })) {
					o.test(t, l)
				}
			}
		}
	}
}

func TestErrorsOfTwoAndThreeFields(t *testing.T) {
	o := newOracle()
	values := map[string][]any{
		"Name": {"a", "", "if"}, "Of": {"b", "", "A"}, "E": {now(), api.Expr{}, number(maxInt + 1), chain(12, now()), word("if")}, "F": {now(), api.Expr{}, number(maxInt + 1), word("if")},
		"Args": {args(), args(api.Expr{}), args(now(), bush(31), number(maxInt+1)), make([]api.Expr, 7)}, "Dist": {api.Dist{Op: api.DConst}, api.Dist{}, api.Dist{Op: api.DTable}, api.Dist{Op: api.DUniform, A: -1}},
		"Flag": {false, true}, "Body": {list(), list(api.Stmt{}), list(api.Stmt{Op: api.SRide})}, "Else": {list(), list(api.Stmt{Op: api.SRide}), list(api.Stmt{})},
	}
	for _, s := range append(o.forms(), api.Stmt{}) {
		for i, first := range fieldNames() {
			for j, second := range fieldNames()[:i] {
				for _, x := range values[first] {
					for _, y := range values[second] {
						put(&s, first, x)
						put(&s, second, y)
						if got, want := stmt.Check(list(s)), o.check(list(s)); got != want {
							t.Fatalf("Check(%s) = %v, not %v", brief(list(s)), got, want)
						}
						for _, third := range fieldNames()[:j] {
							if !slices.Contains(o[s.Op], third) {
								continue
							}
							for _, z := range values[third] {
								l := list(set(s, func(s *api.Stmt) { put(s, third, z) }))
								if got, want := stmt.Check(l), o.check(l); got != want {
									t.Fatalf("Check(%s) = %v, not %v", brief(l), got, want)
								}
							}
						}
					}
				}
				s = with(s.Op, o[s.Op])
			}
		}
	}
}

func TestOrderOfErrorsWithinAStatement(t *testing.T) {
	range1, form := number(maxInt+1), api.Dist{Op: api.DTable, Values: []int{1}}
	long := make([]api.Expr, maxArgs+1)
	for _, c := range []struct {
		s    api.Stmt
		want api.Errno
	}{
		{api.Stmt{Op: 0, Name: "if", E: range1}, api.ErrArg},
		{api.Stmt{Op: api.SSet, Name: "if", E: range1, Flag: true}, api.ErrArg},
		{api.Stmt{Op: api.SSet, Name: "if", E: range1}, api.ErrName},
		{api.Stmt{Op: api.SSet, Name: "v", E: range1}, api.ErrRange},
		{api.Stmt{Op: api.SSet, Name: "if", E: api.Expr{}}, api.ErrName},
		{api.Stmt{Op: api.SDraw, Name: "v", Of: "if", Dist: form}, api.ErrName},
		{api.Stmt{Op: api.SDraw, Name: "v", Of: "r", Dist: form, Else: list(end())}, api.ErrArg},
		{api.Stmt{Op: api.SDraw, Name: "v", Of: "r", Dist: form}, api.ErrForm},
		{api.Stmt{Op: api.SSeize, Name: "desk", E: range1, F: api.Expr{}}, api.ErrRange},
		{api.Stmt{Op: api.SSeize, Name: "desk", E: api.Expr{}, F: range1}, api.ErrArg},
		{api.Stmt{Op: api.SSeize, Name: "desk", E: now(), F: chain(12, range1)}, api.ErrDeep},
		{api.Stmt{Op: api.SSeize, Name: "", E: api.Expr{}, F: range1}, api.ErrName},
		{api.Stmt{Op: api.SSend, Name: "box", Of: "if", E: range1, Args: long}, api.ErrName},
		{api.Stmt{Op: api.SSend, Name: "box", Of: "pack", E: range1, Args: long}, api.ErrRange},
		{api.Stmt{Op: api.SSend, Name: "box", Of: "pack", E: now(), Args: long}, api.ErrLong},
		{api.Stmt{Op: api.SSend, Name: "box", Of: "pack", E: now(), Args: long[:6]}, api.ErrArg},
		{api.Stmt{Op: api.SSend, Name: "box", Of: "pack", E: now(), Args: args(now(), range1, api.Expr{})}, api.ErrRange},
		{api.Stmt{Op: api.SSend, Name: "box", Of: "pack", E: now(), Args: args(word("if"), range1)}, api.ErrName},
		{api.Stmt{Op: api.SSend, Name: "box", Of: "pack", E: range1, Args: args(word("if"))}, api.ErrRange},
		{api.Stmt{Op: api.SSpawn, Name: "if", E: range1, Args: long}, api.ErrName},
		{api.Stmt{Op: api.SSpawn, Name: "box", E: range1, Args: long}, api.ErrRange},
		{api.Stmt{Op: api.SHold, E: range1, Args: long}, api.ErrArg},
		{api.Stmt{Op: api.SIf, E: range1, Body: list(api.Stmt{})}, api.ErrRange},
		{api.Stmt{Op: api.SWhile, E: range1, Body: list(api.Stmt{}), Else: list(api.Stmt{})}, api.ErrArg},
		{api.Stmt{Op: api.SWhile, E: range1, Body: list(api.Stmt{})}, api.ErrRange},
	} {
		for _, l := range places(c.s) {
			testError(t, l, c.want)
		}
	}
}

// faults has statements with each error, and accepted ones.
func faults() []api.Stmt {
	return list(
		end(), hold(1), api.Stmt{}, set(end(), func(s *api.Stmt) { s.Flag = true }), api.Stmt{Op: api.SRide, Name: "if"}, api.Stmt{Op: api.SHold, E: number(maxInt + 1)}, api.Stmt{Op: api.SHold, E: chain(12, now())},
		api.Stmt{Op: api.SSpawn, Name: "a", E: now(), Args: make([]api.Expr, maxArgs+1)}, api.Stmt{Op: api.SDraw, Name: "a", Of: "b", Dist: api.Dist{Op: api.DTable}}, api.Stmt{Op: api.SDraw, Name: "a", Of: "b", Dist: api.Dist{Op: api.DTable, Weights: []int{1}}},
	)
}

func TestFirstErrorInTheOrderOfStatements(t *testing.T) {
	o := newOracle()
	for _, a := range faults() {
		for _, b := range faults() {
			// A statement comes before those of its Body and its Else.
			o.test(t, list(set(a, func(s *api.Stmt) { s.Body = list(b) })))
			o.test(t, list(set(a, func(s *api.Stmt) { s.Else = list(b) })))
			o.test(t, list(api.Stmt{Op: api.SWhile, E: a.E, Body: list(b)}))
			o.test(t, list(api.Stmt{Op: api.SIf, E: a.E, Else: list(b)}))
			o.test(t, list(a, b))
			o.test(t, list(choice(list(a), list(b))))
			o.test(t, list(loop(a), b))
			o.test(t, list(choice(nil, list(a)), b))
			o.test(t, list(a, choice(list(end()), list(b))))
			for _, c := range faults() {
				o.test(t, list(a, b, c))
				o.test(t, list(choice(list(a), list(b)), c))
				o.test(t, list(a, choice(list(b), list(c))))
				o.test(t, list(choice(list(a, b), list(c))))
				o.test(t, list(choice(list(a), list(b, c))))
				o.test(t, list(choice(list(loop(loop(a)), b), nil), c))
				o.test(t, list(choice(list(choice(list(a), list(b))), list(c))))
				o.test(t, list(api.Stmt{Op: api.SIf, E: a.E, Body: list(b), Else: list(c)}))
			}
		}
	}
	name, far, none := api.Stmt{Op: api.SRide, Name: "if"}, api.Stmt{Op: api.SHold, E: number(maxInt + 1)}, api.Stmt{}
	for _, c := range []struct {
		l    []api.Stmt
		want api.Errno
	}{
		{list(name, far, none), api.ErrName},
		{list(far, none, name), api.ErrRange},
		{list(end(), none, name), api.ErrArg},
		{list(choice(list(name), list(far)), none), api.ErrName},
		{list(choice(list(end()), list(far)), none), api.ErrRange},
		{list(choice(list(end()), list(end())), none), api.ErrArg},
		{list(choice(list(end(), loop(loop(far))), list(name)), none), api.ErrRange},
		{list(set(far, func(s *api.Stmt) { s.Op, s.Body = api.SWhile, list(name) })), api.ErrRange},
		{list(set(name, func(s *api.Stmt) { s.Body = list(far) })), api.ErrArg},
		{list(choice(list(choice(nil, list(far)), name), list(none))), api.ErrRange},
		// The errors of expressions do not come before those of statements.
		{list(name, api.Stmt{Op: api.SHold, E: bush(31)}), api.ErrName},
		{list(name, api.Stmt{Op: api.SHold, E: chain(12, now())}), api.ErrName},
		{list(api.Stmt{Op: api.SHold, E: bush(31)}, name), api.ErrLong},
	} {
		testError(t, c.l, c.want)
	}
}

// spread is a random list of n statements in at most so many levels.
func spread(r *rand.Rand, n, levels int) []api.Stmt {
	var l []api.Stmt
	for n > 0 {
		n--
		if levels == 1 || r.IntN(3) == 0 {
			l = append(l, end())
			continue
		}
		body := r.IntN(n + 1)
		orElse := r.IntN(n - body + 1)
		l = append(l, choice(spread(r, body, levels-1), spread(r, orElse, levels-1)))
		n -= body + orElse
	}
	return l
}

func TestNumbersOfStatements(t *testing.T) {
	o := newOracle()
	r := rand.New(rand.NewPCG(10, 1))
	for n := range 420 {
		if n > 10 && n < 190 && n%9 != 0 || n > 210 && n%20 != 0 {
			continue
		}
		want := api.OK
		if n > maxBody {
			want = api.ErrLong
		}
		row := slices.Repeat(list(end()), n)
		for range 5 {
			l := spread(r, n, 12)
			testError(t, l, want)
			if got := stmt.Count(l); got != n {
				t.Fatalf("%d statements are counted as %d", n, got)
			}
		}
		o.test(t, row)
		testError(t, row, want)
		if n < 2 {
			continue
		}
		for _, l := range [][]api.Stmt{
			list(loop(row[1:]...)), list(choice(row[1:], nil)), list(choice(nil, row[1:])), list(choice(row[:n/2], row[n/2+1:])),
			append(row[2:], loop(end())), append(list(choice(nil, list(end()))), row[2:]...), list(choice(nil, list(loop(row[2:]...)))),
		} {
			o.test(t, l)
			testError(t, l, want)
		}
		// Before the length nothing else is examined.
		if n > maxBody {
			testError(t, make([]api.Stmt, n), api.ErrLong)
			testError(t, list(api.Stmt{Body: row[2:], Else: list(api.Stmt{})}), api.ErrLong)
			testError(t, list(api.Stmt{Op: api.SEnd, Else: row[1:]}), api.ErrLong)
		}
	}
	testError(t, append(slices.Repeat(list(end()), maxBody), api.Stmt{}), api.ErrLong)
	testError(t, append(slices.Repeat(list(end()), maxBody-1), api.Stmt{}), api.ErrArg)
}

// tower has n levels, of which the innermost one is l: each is the Body or the Else of a statement, as the bits say.
func tower(n, bits int, l []api.Stmt) []api.Stmt {
	for i := range n {
		if bits>>i&1 == 0 {
			l = list(choice(l, nil))
		} else {
			l = list(choice(nil, l))
		}
	}
	return l
}

func TestNumbersOfLevels(t *testing.T) {
	o := newOracle()
	for n := range 18 {
		for _, bits := range []int{0, -1, 0x55555555, 1 << (n / 2)} {
			want := api.OK
			if n+1 > maxNest {
				want = api.ErrDeep
			}
			l := tower(n, bits, list(end()))
			testError(t, l, want)
			if got := stmt.Depth(l); got != n+1 {
				t.Errorf("%d levels are counted as %d", n+1, got)
			}
			// An empty Body is no level.
			if got := stmt.Depth(tower(n, bits, list())); got != n {
				t.Errorf("%d levels are counted as %d", n, got)
			}
			// The deepest level counts, wherever it is.
			for _, x := range [][]api.Stmt{
				append(slices.Clone(l), end()), append(list(end(), loop(end())), l...), list(choice(list(loop(end())), l)), list(choice(l, list(loop(end())))), append(list(choice(list(end()), l)), loop(loop(loop(end())))),
			} {
				o.test(t, x)
			}
			for _, s := range append(faults(), o.forms()...) {
				o.test(t, tower(n, bits, list(s)))
				o.test(t, append(list(s), l...))
				o.test(t, list(set(s, func(s *api.Stmt) { s.Body = l })))
				o.test(t, list(set(s, func(s *api.Stmt) { s.Else = l })))
			}
		}
	}
}

func TestOrderOfLengthDepthAndFields(t *testing.T) {
	o := newOracle()
	// Lists that are at the limits, or beyond one or both of them, with and without a fault, which is the first, an inner or the last statement.
	for levels := 10; levels <= 15; levels++ {
		for count := 197; count <= 204; count++ {
			for _, bad := range faults() {
				for _, bits := range []int{0, -1, 0x5555} {
					deep := tower(levels-1, bits, list(bad))
					row := slices.Repeat(list(end()), count-levels)
					for _, l := range [][]api.Stmt{
						append(slices.Clone(deep), row...), append(slices.Clone(row), deep...), append(list(bad), append(row[1:], tower(levels-1, bits, list(end()))...)...),
						tower(levels-2, bits, append(list(loop(bad)), row...)), tower(levels-1, bits, append(slices.Clone(row), bad)),
					} {
						if got, want := stmt.Check(l), o.check(l); got != want {
							t.Fatalf("%d levels, %d statements: %v, not %v", levels, count, got, want)
						}
					}
				}
			}
		}
	}
	row := func(n int) []api.Stmt { return slices.Repeat(list(end()), n) }
	for _, c := range []struct {
		l    []api.Stmt
		want api.Errno
	}{
		{append(tower(11, 5, list(end())), row(188)...), api.OK},
		{append(tower(11, 5, list(end())), row(189)...), api.ErrLong},
		{append(tower(12, 5, list(end())), row(187)...), api.ErrDeep},
		{append(tower(12, 5, list(end())), row(188)...), api.ErrLong},
		{append(list(api.Stmt{}), append(tower(12, 5, list(end())), row(186)...)...), api.ErrDeep},
		{append(list(api.Stmt{}), append(tower(12, 5, list(end())), row(187)...)...), api.ErrLong},
		{append(list(api.Stmt{}), append(tower(11, 5, list(end())), row(187)...)...), api.ErrArg},
		{list(api.Stmt{Body: tower(10, 5, list(end()))}), api.ErrArg},
		{list(api.Stmt{Body: tower(11, 5, list(end()))}), api.ErrDeep},
		{list(set(end(), func(s *api.Stmt) { s.Else = tower(10, 5, list(end())) })), api.ErrArg},
		{list(set(end(), func(s *api.Stmt) { s.Else = tower(11, 5, list(end())) })), api.ErrDeep},
		{tower(11, 0, list(api.Stmt{Op: api.SRide})), api.ErrName},
		{tower(12, 0, list(api.Stmt{Op: api.SRide})), api.ErrDeep},
	} {
		testError(t, c.l, c.want)
	}
}

func TestEachText(t *testing.T) {
	for b := range 256 {
		s, want := string([]byte{'a', byte(b)}), api.ErrName
		if (b >= 'a' && b <= 'z' || b >= '0' && b <= '9' || b == '_') && s != "at" {
			want = api.OK
		}
		for _, x := range list(api.Stmt{Op: api.SRide, Name: s}, api.Stmt{Op: api.SGet, Name: "a", Of: s}, api.Stmt{Op: api.SSend, Name: s, Of: "a", E: now()}, api.Stmt{Op: api.SSend, Name: "a", Of: s, E: now()}, api.Stmt{Op: api.SSpawn, Name: s, E: now()}) {
			testError(t, list(x), want)
		}
	}
	for _, s := range texts("hold", "if", "while", "end", "true", "now", "", "9a", "A", strings.Repeat("a", 25), strings.Repeat("a", 1<<16)) {
		for _, x := range list(api.Stmt{Op: api.SWait, Name: s}, api.Stmt{Op: api.SSet, Name: s, E: now()}, api.Stmt{Op: api.SDraw, Name: s, Of: "a", Dist: api.Dist{Op: api.DConst}}, api.Stmt{Op: api.SDraw, Name: "a", Of: s, Dist: api.Dist{Op: api.DConst}}) {
			testError(t, list(x), api.ErrName)
		}
	}
}

// name is one of few names.
func name(r *rand.Rand) string {
	return pick(r, texts("a", "b", "c", "b_1", "b_", "desk", "line", "ab"))
}

// formula is a random expression.
func formula(r *rand.Rand) api.Expr {
	return pick(r, args(now(), number(r.IntN(5)), word(name(r)), ask(api.XFree, name(r)), ask(api.XSize, name(r)), ask(api.XWaiting, name(r)), dur(r.IntN(9)), of(api.XAdd, word(name(r)), number(r.IntN(3)))))
}

// random is a random accepted statement with at most so many levels.
func (o oracle) random(r *rand.Rand, levels int) api.Stmt {
	s := api.Stmt{Op: api.StmtOp(1 + r.IntN(18))}
	if levels > 1 && r.IntN(3) == 0 {
		s.Op = pick(r, []api.StmtOp{api.SIf, api.SWhile})
	}
	for _, field := range o[s.Op] {
		switch field {
		case "Name", "Of":
			put(&s, field, name(r))
		case "E", "F":
			put(&s, field, formula(r))
		case "Args":
			for range r.IntN(4) {
				s.Args = append(s.Args, formula(r))
			}
		case "Dist":
			s.Dist = pick(r, []api.Dist{{Op: api.DConst, A: r.IntN(5)}, {Op: api.DUniform, A: 1, B: 6}, {Op: api.DTable, Values: []int{r.IntN(9), 2}, Weights: []int{1, 3}}})
		case "Flag":
			s.Flag = r.IntN(2) == 0
		case "Body", "Else":
			if levels > 1 {
				put(&s, field, o.some(r, levels-1))
			}
		}
	}
	return s
}

// some is a random accepted list with at most so many levels, if it has not too many statements.
func (o oracle) some(r *rand.Rand, levels int) []api.Stmt {
	var l []api.Stmt
	for range r.IntN(4) {
		l = append(l, o.random(r, levels))
	}
	return l
}

// damaged is a list with changes at some of its statements.
func damaged(r *rand.Rand, l []api.Stmt) []api.Stmt {
	l = slices.Clone(l)
	for i := range l {
		s := &l[i]
		s.Body, s.Else = damaged(r, s.Body), damaged(r, s.Else)
		switch r.IntN(30) {
		case 0:
			s.Op = pick(r, someOps())
		case 1:
			field := pick(r, fieldNames())
			put(s, field, pick(r, someValues()[field]))
		case 2:
			*s = pick(r, faults())
		case 3:
			s.Body, s.Else = s.Else, s.Body
		}
	}
	return l
}

func TestRandomLists(t *testing.T) {
	o := newOracle()
	r := rand.New(rand.NewPCG(10, 2))
	seen := map[api.Errno]int{}
	for range 4000 {
		l := o.some(r, 1+r.IntN(5))
		o.test(t, l)
		seen[stmt.Check(l)]++
		l = damaged(r, l)
		o.test(t, l)
		seen[stmt.Check(l)]++
		l = tower(r.IntN(14), r.IntN(1<<14), l)
		o.test(t, l)
		seen[stmt.Check(l)]++
		l = append(spread(r, r.IntN(250), 12), l...)
		if got, want := stmt.Check(l), o.check(l); got != want {
			t.Fatalf("Check(%s) = %v, not %v", brief(l), got, want)
		}
		seen[stmt.Check(l)]++
	}
	for _, errno := range []api.Errno{api.OK, api.ErrArg, api.ErrRange, api.ErrName, api.ErrLong, api.ErrDeep} {
		if seen[errno] < 50 {
			t.Errorf("the result %v was seen %d times only", errno, seen[errno])
		}
	}
}

func TestCheckOfManyStatements(t *testing.T) {
	// As trees these have 2^100 statements, or no end.
	huge := list(end())
	for range 100 {
		huge = list(choice(huge, huge))
	}
	endless := list(loop())
	endless[0].Body = endless
	other := list(choice(nil, nil))
	other[0].Else = other
	for _, l := range [][]api.Stmt{huge, endless, other, append(slices.Clone(huge), endless...), list(api.Stmt{Body: other}), slices.Repeat(list(api.Stmt{}), 1<<17), tower(1<<16-1, 0, list(end()))} {
		if got := stmt.Check(l); got != api.ErrLong {
			t.Error(got)
		}
	}
}

// Same, which all promises rest on

func TestExamplesOfSame(t *testing.T) {
	a, b := list(hold(1), end()), list(end(), hold(1))
	for _, c := range []struct {
		a, b []api.Stmt
		want bool
	}{
		{nil, nil, true},
		{nil, list(), true},
		{list(), a[:0], true},
		{nil, list(api.Stmt{}), false},
		{a, list(hold(1), end()), true},
		{a, b, false},
		{a, a[:1], false},
		{a, a[1:], false},
		{a, append(slices.Clone(a), end()), false},
		{a, list(hold(2), end()), false},
		{list(loop()), list(api.Stmt{Op: api.SWhile, E: now()}), true},
		{list(loop()), list(loop(end())), false},
		{list(choice(a, nil)), list(choice(nil, a)), false},
		{list(choice(a, b)), list(choice(b, a)), false},
		{list(choice(a, b)), list(choice(copied(a), copied(b))), true},
		{list(choice(nil, nil)), list(choice(list(), list())), true},
		// The same statements in the same order, but at other places.
		{list(loop(end(), end())), list(loop(end()), end()), false},
		{list(loop(loop(end()))), list(loop(loop(), end())), false},
		{list(api.Stmt{Op: api.SIf, E: now(), Body: list(end())}), list(api.Stmt{Op: api.SWhile, E: now(), Body: list(end())}), false},
		// Each field alone, also where the form does not use it.
		{list(api.Stmt{}), list(api.Stmt{Op: 1 << 32}), false},
		{list(api.Stmt{Name: "a"}), list(api.Stmt{Of: "a"}), false},
		{list(api.Stmt{Name: "a"}), list(api.Stmt{Name: "b"}), false},
		{list(api.Stmt{E: now()}), list(api.Stmt{F: now()}), false},
		{list(api.Stmt{E: now()}), list(api.Stmt{E: now()}), true},
		{list(api.Stmt{E: of(0, now())}), list(api.Stmt{E: of(0, number(1))}), false},
		{list(api.Stmt{E: api.Expr{Kids: args()}}), list(api.Stmt{F: api.Expr{Kids: args()}}), true},
		{list(api.Stmt{Args: args()}), list(api.Stmt{}), true},
		{list(api.Stmt{Args: args(now())}), list(api.Stmt{}), false},
		{list(api.Stmt{Args: args(now(), number(1))}), list(api.Stmt{Args: args(number(1), now())}), false},
		{list(api.Stmt{Args: make([]api.Expr, 9)}), list(api.Stmt{Args: make([]api.Expr, 9)}), true},
		{list(api.Stmt{Args: make([]api.Expr, 9)}), list(api.Stmt{Args: make([]api.Expr, 8)}), false},
		{list(api.Stmt{Dist: api.Dist{Values: []int{}}}), list(api.Stmt{Dist: api.Dist{Weights: []int{}}}), true},
		{list(api.Stmt{Dist: api.Dist{Values: []int{1}}}), list(api.Stmt{Dist: api.Dist{Weights: []int{1}}}), false},
		{list(api.Stmt{Dist: api.Dist{Op: -1}}), list(api.Stmt{Dist: api.Dist{Op: -1}}), true},
		{list(api.Stmt{Dist: api.Dist{Op: -1}}), list(api.Stmt{Dist: api.Dist{Op: -2}}), false},
		{list(api.Stmt{Flag: true}), list(api.Stmt{}), false},
		{list(api.Stmt{Op: -5, Body: list(api.Stmt{Op: 99, Name: "if"})}), list(api.Stmt{Op: -5, Body: list(api.Stmt{Op: 99, Name: "if"})}), true},
		{list(api.Stmt{Op: -5, Body: list(api.Stmt{Op: 99, Name: "if"})}), list(api.Stmt{Op: -5, Body: list(api.Stmt{Op: 98, Name: "if"})}), false},
		{list(api.Stmt{Name: "\xff"}), list(api.Stmt{Name: "\xff"}), true},
		{list(api.Stmt{Name: "\xff"}), list(api.Stmt{Name: "\xfe"}), false},
		{list(api.Stmt{Of: "a"}), list(api.Stmt{Of: "a\x00"}), false},
		// Also beyond the limits.
		{make([]api.Stmt, 500), make([]api.Stmt, 500), true},
		{make([]api.Stmt, 500), make([]api.Stmt, 501), false},
		{tower(30, 5, a), tower(30, 5, a), true},
		{tower(30, 5, a), tower(30, 5, b), false},
		{tower(30, 5, a), tower(30, 4, a), false},
		{tower(30, 5, a), tower(31, 5, a), false},
	} {
		if stmt.Same(c.a, c.b) != c.want || stmt.Same(c.b, c.a) != c.want {
			t.Errorf("Same(%s, %s) is not %v", brief(c.a), brief(c.b), c.want)
		}
	}
}

func TestSameIsItsDefinition(t *testing.T) {
	o := newOracle()
	var all [][]api.Stmt
	for _, s := range append(o.forms(), faults()...) {
		all = append(all, places(s)...)
		all = append(all, list(set(s, func(s *api.Stmt) { s.Body = list(end()) })), list(set(s, func(s *api.Stmt) { s.Else = list(end()) })))
	}
	for bits := range 1 << len(fieldNames()) {
		if bits%3 == 0 {
			all = append(all, list(with(3, subset(bits))), list(with(0, subset(bits))))
		}
	}
	for _, name := range fieldNames() {
		for _, x := range someValues()[name] {
			all = append(all, list(set(api.Stmt{}, func(s *api.Stmt) { put(s, name, x) })))
		}
	}
	shown := make([]string, len(all))
	for i, l := range all {
		shown[i] = show(l)
	}
	for i, a := range all {
		for j, b := range all {
			if stmt.Same(a, b) != (shown[i] == shown[j]) {
				t.Fatalf("Same(%s, %s) = %v", brief(a), brief(b), stmt.Same(a, b))
			}
		}
	}
}

// change calls visit after each change of a single number, text or bool of v, and of the length of a list of it; then it undoes the change.
func change(v reflect.Value, visit func()) {
	try := func(x reflect.Value) {
		old := reflect.New(v.Type()).Elem()
		old.Set(v)
		v.Set(x)
		visit()
		v.Set(old)
	}
	switch v.Kind() {
	case reflect.Struct:
		for i := range v.NumField() {
			change(v.Field(i), visit)
		}
	case reflect.Slice:
		for i := range v.Len() {
			change(v.Index(i), visit)
			try(reflect.AppendSlice(v.Slice3(0, i, i), v.Slice(i+1, v.Len())))
		}
		zero := reflect.Zero(v.Type().Elem())
		try(reflect.Append(v.Slice3(0, v.Len(), v.Len()), zero))
		try(reflect.AppendSlice(reflect.Append(reflect.Zero(v.Type()), zero), v))
	case reflect.String:
		try(reflect.ValueOf(v.String() + "x"))
		try(reflect.ValueOf("X" + v.String()))
	case reflect.Bool:
		try(reflect.ValueOf(!v.Bool()))
	case reflect.Int:
		for _, n := range []int64{1, -1, 1 << 32, math.MinInt64} {
			try(reflect.ValueOf(v.Int() + n).Convert(v.Type()))
		}
	}
}

func TestSameAfterEachChange(t *testing.T) {
	o := newOracle()
	r := rand.New(rand.NewPCG(10, 3))
	lists := [][]api.Stmt{nil, list(api.Stmt{}), o.forms(), list(whole(3)), list(choice(list(whole(4), hold(1)), list(whole(13)))), tower(5, 5, list(whole(2), end()))}
	for range 60 {
		lists = append(lists, damaged(r, o.some(r, 4)))
	}
	for _, l := range lists {
		x, changes := copied(l), 0
		change(reflect.ValueOf(&x).Elem(), func() {
			changes++
			if stmt.Same(l, x) || stmt.Same(x, l) {
				t.Fatalf("%s is equal to %s", brief(l), brief(x))
			}
		})
		if !stmt.Same(l, x) || !stmt.Same(x, l) || changes < 2 {
			t.Fatalf("%s is not equal to itself after %d changes", brief(l), changes)
		}
	}
}

func TestNilAndEmptyListsSideBySide(t *testing.T) {
	o := newOracle()
	for i := range 2 << 8 {
		bit := func(k int) int { return i >> k & 1 }
		exprs, lists, ints := [][]api.Expr{nil, args()}, [][]api.Stmt{nil, list()}, [][]int{nil, {}}
		s := api.Stmt{
			Op: api.SIf, E: api.Expr{Op: api.XNow, Kids: exprs[bit(0)]}, F: api.Expr{Kids: exprs[bit(1)]}, Args: exprs[bit(2)], Dist: api.Dist{Values: ints[bit(3)], Weights: ints[bit(4)]},
			Body: list(api.Stmt{Op: api.SHold, E: now(), Body: lists[bit(5)], Else: lists[bit(6)]}), Else: lists[bit(7)],
		}
		l := append(lists[bit(8)], s)
		if want := list(choice(list(api.Stmt{Op: api.SHold, E: now()}), nil)); !stmt.Same(l, want) || !stmt.Same(want, l) {
			t.Fatalf("%d: not equal", i)
		}
		testError(t, l, api.OK)
		o.test(t, l)
	}
}

// P10.2

func TestExamplesOfCountAndDepth(t *testing.T) {
	for _, c := range []struct {
		l             []api.Stmt
		count, levels int
	}{
		{nil, 0, 0},
		{list(), 0, 0},
		{list(end())[:0], 0, 0},
		{list(end()), 1, 1},
		{list(end(), end()), 2, 1},
		{list(loop()), 1, 1},
		{list(choice(nil, list())), 1, 1},
		{list(loop(end())), 2, 2},
		{list(choice(list(end()), list(end()))), 3, 2},
		{list(choice(nil, list(end()))), 2, 2},
		{list(choice(list(end()), list(loop(end())))), 4, 3},
		{list(choice(list(loop(end())), list(end()))), 4, 3},
		{list(loop(end()), end(), loop(loop(end(), end())), end()), 8, 3},
		// Also where a form uses no Body.
		{list(api.Stmt{}), 1, 1},
		{list(api.Stmt{Body: list(api.Stmt{}, api.Stmt{Else: list(api.Stmt{Op: 99})})}), 4, 3},
		{list(api.Stmt{Op: api.SEnd, Body: list(end()), Else: list(end())}), 3, 2},
		{list(api.Stmt{Op: api.SWhile, Else: list(loop(end()))}), 3, 3},
		{tower(11, 7, list(end())), 12, 12},
		{tower(12, 7, list(end())), 13, 13},
		{tower(99, 7, make([]api.Stmt, 300)), 399, 100},
	} {
		if count, levels := stmt.Count(c.l), stmt.Depth(c.l); count != c.count || levels != c.levels {
			t.Errorf("%s has %d statements in %d levels, not %d in %d", brief(c.l), count, levels, c.count, c.levels)
		}
	}
}

func TestManyStatementsAndManyLevels(t *testing.T) {
	const many, deep = 1 << 17, 1 << 16
	row := slices.Repeat(list(api.Stmt{Op: api.SRide, Name: "a"}, api.Stmt{Op: api.SSpawn, Name: "b"}), many/2)
	high := tower(deep-1, 0x5555, list(api.Stmt{Op: api.SSend, Name: "c", Of: "d"}))
	for _, c := range []struct {
		l                      []api.Stmt
		count, levels, targets int
		uses                   []string
	}{
		{row, many, 1, many / 2, texts("a")}, {high, deep, deep, 1, nil}, {append(slices.Clone(row), high...), many + deep, deep, many/2 + 1, texts("a")}, {tower(1, 0, high), deep + 1, deep + 1, 1, nil},
	} {
		if count, levels, begun := stmt.Count(c.l), stmt.Depth(c.l), len(stmt.Targets(c.l)); count != c.count || levels != c.levels || begun != c.targets {
			t.Errorf("%d statements in %d levels with %d targets, not %d in %d with %d", count, levels, begun, c.count, c.levels, c.targets)
		}
		if got := stmt.Uses(c.l); !slices.Equal(got, c.uses) {
			t.Errorf("%d statements use %q", c.count, got)
		}
		testError(t, c.l, api.ErrLong)
		if !stmt.Same(c.l, c.l) || stmt.Same(c.l, c.l[1:]) || stmt.Same(c.l, tower(1, 0, c.l)) {
			t.Errorf("%d statements in %d levels are not compared well", c.count, c.levels)
		}
	}
}

func TestCountAndDepthOfParts(t *testing.T) {
	o := newOracle()
	r := rand.New(rand.NewPCG(10, 4))
	for range 5000 {
		a, b := damaged(r, o.some(r, 1+r.IntN(5))), damaged(r, o.some(r, 1+r.IntN(5)))
		both := slices.Concat(a, b)
		if got, want := stmt.Count(both), stmt.Count(a)+stmt.Count(b); got != want {
			t.Fatalf("Count(%s) = %d, not %d", brief(both), got, want)
		}
		if got, want := stmt.Depth(both), max(stmt.Depth(a), stmt.Depth(b)); got != want {
			t.Fatalf("Depth(%s) = %d, not %d", brief(both), got, want)
		}
		for _, s := range append(faults(), api.Stmt{Op: 99}, loop(), choice(nil, nil)) {
			for _, l := range [][]api.Stmt{list(set(s, func(s *api.Stmt) { s.Body = a })), list(set(s, func(s *api.Stmt) { s.Else = a }))} {
				if count, levels := stmt.Count(l), stmt.Depth(l); count != stmt.Count(a)+1 || levels != stmt.Depth(a)+1 {
					t.Fatalf("%s has %d statements in %d levels", brief(l), count, levels)
				}
			}
			l := list(set(s, func(s *api.Stmt) { s.Body, s.Else = a, b }))
			if count, levels := stmt.Count(l), stmt.Depth(l); count != stmt.Count(both)+1 || levels != stmt.Depth(both)+1 {
				t.Fatalf("%s has %d statements in %d levels", brief(l), count, levels)
			}
		}
	}
}

// P10.3

func send(site, routine string) api.Stmt {
	return api.Stmt{Op: api.SSend, Name: routine, Of: site, E: dur(2)}
}

func spawn(routine string) api.Stmt { return api.Stmt{Op: api.SSpawn, Name: routine, E: dur(2)} }

func TestExamplesOfTargets(t *testing.T) {
	for _, c := range []struct {
		l    []api.Stmt
		want [][2]string
	}{
		{nil, nil},
		{list(end()), nil},
		{list(send("pack", "box")), [][2]string{{"pack", "box"}}},
		{list(spawn("box")), [][2]string{{"", "box"}}},
		{list(spawn("z"), send("y", "x"), spawn("a"), send("b", "c")), [][2]string{{"", "z"}, {"y", "x"}, {"", "a"}, {"b", "c"}}},
		// Equal ones are there as often as they are begun.
		{list(spawn("a"), spawn("a"), send("b", "a"), send("b", "a")), [][2]string{{"", "a"}, {"", "a"}, {"b", "a"}, {"b", "a"}}},
		// In the order of statements, at several levels.
		{list(choice(list(spawn("b")), list(spawn("c"))), spawn("a")), [][2]string{{"", "b"}, {"", "c"}, {"", "a"}}},
		{list(spawn("a"), choice(list(send("s", "e"), loop(send("s", "d"), spawn("x")), spawn("f")), list(choice(nil, list(send("t", "c"))), spawn("b"))), send("t", "a")),
			[][2]string{{"", "a"}, {"s", "e"}, {"s", "d"}, {"", "x"}, {"", "f"}, {"t", "c"}, {"", "b"}, {"t", "a"}}},
		// Other statements begin nothing, whatever they name.
		{list(api.Stmt{Op: api.SSet, Name: "a", Of: "b"}, api.Stmt{Op: 0, Name: "a", Of: "b"}, api.Stmt{Op: 99, Name: "a", Of: "b"}, api.Stmt{Op: api.SGet, Name: "a", Of: "b"}), nil},
		// Any lists are accepted.
		{list(api.Stmt{Op: api.SSend}), [][2]string{{"", ""}}},
		{list(api.Stmt{Op: api.SSpawn}), [][2]string{{"", ""}}},
		{list(api.Stmt{Op: api.SSend, Name: "a"}), [][2]string{{"", "a"}}},
		{list(api.Stmt{Op: api.SSpawn, Name: "a", Of: "b"}), [][2]string{{"", "a"}}},
		{list(api.Stmt{Op: api.SSend, Name: "if", Of: "\xff"}), [][2]string{{"\xff", "if"}}},
		{list(set(spawn("a"), func(s *api.Stmt) { s.Body, s.Else = list(spawn("b")), list(spawn("c")) })), [][2]string{{"", "a"}, {"", "b"}, {"", "c"}}},
		{list(set(end(), func(s *api.Stmt) { s.Else = list(send("a", "b")) })), [][2]string{{"a", "b"}}},
		{tower(30, 0x5555, list(send("a", "b"))), [][2]string{{"a", "b"}}},
	} {
		if got := stmt.Targets(c.l); !slices.Equal(got, c.want) {
			t.Errorf("Targets(%s) = %q, not %q", brief(c.l), got, c.want)
		}
	}
}

func TestExamplesOfUses(t *testing.T) {
	ride := func(s string) api.Stmt { return api.Stmt{Op: api.SRide, Name: s} }
	wait := func(s string) api.Stmt { return api.Stmt{Op: api.SWait, Name: s} }
	asking := of(api.XAdd, ask(api.XFree, "x"), of(api.XAdd, ask(api.XSize, "y"), of(api.XAdd, ask(api.XWaiting, "z"), word("w"))))
	for _, c := range []struct {
		l    []api.Stmt
		want []string
	}{
		{nil, nil},
		{list(end()), nil},
		{list(ride("a")), texts("a")},
		{list(wait("c"), ride("b"), ride("a")), texts("a", "b", "c")},
		{list(ride("a"), wait("a"), api.Stmt{Op: api.SSeize, Name: "a"}, loop(ride("a"))), texts("a")},
		{list(ride("b"), ride("a"), ride("b"), ride("a"), ride("b")), texts("a", "b")},
		{list(choice(list(ride("d"), choice(nil, list(ride("b")))), list(ride("c"))), ride("a"), loop(ride("c"))), texts("a", "b", "c", "d")},
		// Byte by byte; a proper prefix comes first.
		{list(ride("b"), ride("ab"), ride("a_"), ride("a9"), ride("a"), ride("a10")), texts("a", "a10", "a9", "a_", "ab", "b")},
		// The variable is no object, the stream is one.
		{list(api.Stmt{Op: api.SDraw, Name: "v", Of: "r"}), texts("r")},
		{list(api.Stmt{Op: api.SGet, Name: "shelf", Of: "v"}), texts("shelf")},
		{list(api.Stmt{Op: api.SSet, Name: "v"}, send("pack", "box"), spawn("box")), nil},
		// What expressions mention does not count.
		{list(api.Stmt{Op: api.SHold, E: asking}, loop(), choice(nil, nil), api.Stmt{Op: api.SSpawn, Name: "a", E: asking, Args: args(asking)}, api.Stmt{Op: api.SSend, Name: "a", Of: "b", E: asking, Args: args(asking)}), nil},
		{list(api.Stmt{Op: api.SSeize, Name: "a", E: asking, F: asking}, api.Stmt{Op: api.SWhile, E: asking, Body: list(api.Stmt{Op: api.SSet, Name: "v", E: asking})}), texts("a")},
		// Any lists are accepted.
		{list(api.Stmt{Op: 0, Name: "a", Of: "b"}, api.Stmt{Op: 19, Name: "a", Of: "b"}, api.Stmt{Op: -1, Name: "a", Of: "b"}, api.Stmt{Op: api.SEnd, Name: "a", Of: "b"}), nil},
		{list(ride("if"), ride("\xff"), ride("A")), texts("A", "if", "\xff")},
		{list(ride(""), ride("a")), texts("", "a")},
		{list(api.Stmt{Op: api.SDraw}), texts("")},
		{list(set(ride("b"), func(s *api.Stmt) { s.Of, s.Body, s.Else = "c", list(ride("d")), list(ride("a")) })), texts("a", "b", "d")},
		{tower(30, 0x5555, list(ride("a"))), texts("a")},
	} {
		if got := stmt.Uses(c.l); !slices.Equal(got, c.want) {
			t.Errorf("Uses(%s) = %q, not %q", brief(c.l), got, c.want)
		}
	}
}

func TestNamesOfEachForm(t *testing.T) {
	const naming = "6 7 8 9 10 11 12 15 16 17"
	for _, op := range someOps() {
		s := api.Stmt{Op: op, Name: "n", Of: "o", E: word("e"), F: word("f"), Args: args(word("x"))}
		var begun [][2]string
		var used []string
		switch {
		case op == 2:
			used = texts("o")
		case slices.Contains(strings.Fields(naming), fmt.Sprint(int(op))):
			used = texts("n")
		case op == 13:
			begun = [][2]string{{"o", "n"}}
		case op == 14:
			begun = [][2]string{{"", "n"}}
		}
		for _, l := range append(places(s), tower(20, 0x5555, list(s))) {
			if got := stmt.Uses(l); !slices.Equal(got, used) {
				t.Errorf("Uses(%s) = %q, not %q", brief(l), got, used)
			}
			if got := stmt.Targets(l); !slices.Equal(got, begun) {
				t.Errorf("Targets(%s) = %q, not %q", brief(l), got, begun)
			}
		}
		if got := stmt.Uses(list(s, s, loop(s))); !slices.Equal(got, used) {
			t.Errorf("three statements of the form %d use %q", op, got)
		}
		if got := stmt.Targets(list(s, loop(s))); len(got) != 2*len(begun) {
			t.Errorf("two statements of the form %d begin %q", op, got)
		}
	}
}

func TestNamesOfParts(t *testing.T) {
	o := newOracle()
	r := rand.New(rand.NewPCG(10, 5))
	for range 5000 {
		a, b := damaged(r, o.some(r, 1+r.IntN(5))), damaged(r, o.some(r, 1+r.IntN(5)))
		both := slices.Concat(a, b)
		if got, want := stmt.Targets(both), slices.Concat(stmt.Targets(a), stmt.Targets(b)); !slices.Equal(got, want) {
			t.Fatalf("Targets(%s) = %q, not %q", brief(both), got, want)
		}
		used, first, second := stmt.Uses(both), stmt.Uses(a), stmt.Uses(b)
		for _, s := range append(slices.Concat(used, first, second), "none", "v") {
			if slices.Contains(used, s) != (slices.Contains(first, s) || slices.Contains(second, s)) {
				t.Fatalf("Uses(%s) = %q: %q", brief(both), used, s)
			}
		}
		for i, s := range used {
			if i > 0 && used[i-1] >= s {
				t.Fatalf("Uses(%s) = %q", brief(both), used)
			}
		}
		// In a Body and an Else they are the same.
		inner := list(choice(a, b))
		if !slices.Equal(stmt.Targets(inner), stmt.Targets(both)) || !slices.Equal(stmt.Uses(inner), used) {
			t.Fatalf("Targets and Uses of %s", brief(inner))
		}
	}
}

// P10.4

func TestBeginningsOfAcceptedLists(t *testing.T) {
	o := newOracle()
	r := rand.New(rand.NewPCG(10, 6))
	lists := [][]api.Stmt{o.forms(), slices.Repeat(list(end()), maxBody), append(slices.Repeat(list(end()), maxBody-12), tower(11, 5, list(end()))...), append(tower(11, 5, list(end())), slices.Repeat(list(hold(3)), maxBody-12)...)}
	for i := range 4000 {
		lists = append(lists, slices.Concat(o.some(r, 3), o.some(r, 2), o.some(r, 5)))
		if i%20 == 0 {
			lists = append(lists, spread(r, maxBody, 12))
		}
	}
	tried := 0
	for _, l := range lists {
		if o.check(l) != api.OK {
			continue
		}
		for i := range len(l) + 1 {
			tried++
			if got := stmt.Check(l[:i]); got != api.OK {
				t.Fatalf("Check(%s) = %v, although it begins an accepted list", brief(l[:i]), got)
			}
		}
		for _, p := range flat(l) {
			for _, inner := range [][]api.Stmt{p.s.Body, p.s.Else, list(p.s)} {
				if got := stmt.Check(inner); got != api.OK {
					t.Fatalf("Check(%s) = %v, although it is within an accepted list", brief(inner), got)
				}
			}
		}
	}
	if tried < 10000 {
		t.Errorf("only %d beginnings were tried", tried)
	}
}

// R4

func TestNothingIsModifiedOrKept(t *testing.T) {
	o := newOracle()
	r := rand.New(rand.NewPCG(10, 7))
	for range 2000 {
		l := damaged(r, slices.Concat(o.some(r, 5), list(send("a", "b"), spawn("c"), loop(api.Stmt{Op: api.SRide, Name: "d"}))))
		before := show(l)
		errno, count, levels, begun, used := stmt.Check(l), stmt.Count(l), stmt.Depth(l), stmt.Targets(l), stmt.Uses(l)
		wantBegun, wantUsed := slices.Clone(begun), slices.Clone(used)
		for i := range begun {
			begun[i] = [2]string{"spoilt", "spoilt"}
		}
		for i := range used {
			used[i] = "spoilt"
		}
		_, _ = append(begun, [2]string{}), append(used, "spoilt")
		if !stmt.Same(l, l) || show(l) != before {
			t.Fatalf("%s was modified", before)
		}
		if stmt.Check(l) != errno || stmt.Count(l) != count || stmt.Depth(l) != levels || !slices.Equal(stmt.Targets(l), wantBegun) || !slices.Equal(stmt.Uses(l), wantUsed) {
			t.Fatalf("something of %s was kept", before)
		}
	}
}

func TestOrderOfMemoryDoesNotMatter(t *testing.T) {
	// Statements that lie behind the list in the same memory are no part of it.
	all := list(api.Stmt{Op: api.SRide, Name: "b"}, end(), api.Stmt{}, spawn("x"), api.Stmt{Op: api.SRide, Name: "a"})
	l := all[:2]
	testError(t, l, api.OK)
	if stmt.Count(l) != 2 || !slices.Equal(stmt.Uses(l), texts("b")) || len(stmt.Targets(l)) != 0 || !stmt.Same(l, list(all[0], all[1])) || stmt.Same(l, all) {
		t.Error(brief(l))
	}
	inner := list(choice(all[:1], all[1:2]))
	testError(t, inner, api.OK)
	if stmt.Count(inner) != 3 || show(all[2]) != show(api.Stmt{}) {
		t.Error(brief(inner))
	}
}
