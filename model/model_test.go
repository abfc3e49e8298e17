package model_test

import (
	"fmt"
	"math"
	"math/rand/v2"
	"reflect"
	"slices"
	"strings"
	"testing"

	"simulator/api"
	"simulator/dist"
	"simulator/model"
	"simulator/names"
	"simulator/stmt"
)

// The limits of the document, and not those of the program.
const (
	maxInt      = 1000000000000
	maxTime     = 1000000000
	maxDecls    = 32
	maxRoutines = 16
	maxSites    = 16
	maxArgs     = 6
	maxSlots    = 16
	maxUnits    = 1000
	maxChanges  = 20
	maxBelt     = 1000
	maxTerms    = 8
	maxCoef     = 1000
)

func texts(l ...string) []string                    { return l }
func ints(l ...int) []int                           { return l }
func always(n int) api.Dist                         { return api.Dist{Op: api.DConst, A: n} }
func number(n int) api.Expr                         { return api.Expr{Op: api.XInt, N: n} }
func ride(s string) api.Stmt                        { return api.Stmt{Op: api.SRide, Name: s} }
func end() api.Stmt                                 { return api.Stmt{Op: api.SEnd} }
func value(s string, t api.Type, n int) api.Value   { return api.Value{Name: s, Type: t, N: n} }
func field(s string, t api.Type) api.Field          { return api.Field{Name: s, Type: t} }
func term(n int, what, s string) api.Term           { return api.Term{Coef: n, What: what, Name: s} }
func link(from, to string, n int) api.Link          { return api.Link{From: from, To: to, Delay: n} }
func law(s string, n int, l ...api.Term) api.Law    { return api.Law{Name: s, Terms: l, Total: n} }
func pick[T any](r *rand.Rand, l []T) T             { return l[r.IntN(len(l))] }
func long[T any](l []T, n int) []T                  { return append(slices.Clone(l), make([]T, n-len(l))...) }
func first(m *api.Model) *api.SiteDecl              { return &m.Sites[0] }
func only(s api.SiteDecl) api.Model                 { return api.Model{Name: "m", Sites: []api.SiteDecl{s}} }
func start(s string, at int, args ...int) api.Start { return api.Start{Routine: s, At: at, Args: args} }

// kinds has the kinds of declarations in their order.
func kinds() []string {
	return texts("var", "resource", "store", "belt", "queue", "stream", "tally", "level", "count", "routine")
}

// shop is an accepted model with at least two declarations of each kind.
func shop() api.Model {
	return api.Model{
		Name:   "shop",
		Params: []api.Value{value("n", api.Int, 3), value("fast", api.Bool, 1), value("gap", api.Time, 60)},
		Sites: []api.SiteDecl{plant(), {
			Name:    "yard",
			Vars:    []api.Value{value("total", api.Time, 0), value("mill", api.Int, 1)},
			Streams: texts("n"), Queues: texts("yard", "part"), Counts: texts("shelf"),
			Routines: []api.Routine{{Name: "lane"}, {Name: "hall", Params: []api.Field{field("lane", api.Bool)}}},
			Starts:   []api.Start{start("hall", 0, 1)},
			Laws:     []api.Law{law("parts", 0, term(1, "counted", "shelf"), term(-1, "ended", "lane"))},
		}, {Name: "dock"}},
		Links: []api.Link{link("plant", "yard", 4), link("yard", "plant", 1), link("plant", "dock", maxTime)},
	}
}

// plant is the first site of shop.
func plant() api.SiteDecl {
	return api.SiteDecl{
		Name: "plant",
		Vars: []api.Value{value("total", api.Int, -4), value("open", api.Bool, 1), value("since", api.Time, 7)},
		Resources: []api.ResourceDecl{
			{
				Name: "mill", Units: 2, Shift: []api.Change{{At: 0, Units: 2}, {At: 8, Units: 0}, {At: 9, Units: 5}}, Cycle: 24,
				Fault: api.Fault{Stream: "wear", Up: always(50), Down: api.Dist{Op: api.DTable, Values: ints(1, 5), Weights: ints(2, 3)}},
			},
			{Name: "desk"},
			{Name: "crane", Units: 7, Shift: []api.Change{{At: 3, Units: 1}}, Cycle: 5},
		},
		Stores:  []api.StoreDecl{{Name: "shelf", Room: 3, Policy: api.Least}, {Name: "bin", Room: 1, Policy: api.Fifo}, {Name: "stack", Room: 9, Policy: api.Lifo}},
		Belts:   []api.BeltDecl{{Name: "lane", Length: 5, Step: 3}, {Name: "ramp", Length: 1, Step: 2}},
		Queues:  texts("hall", "gate"),
		Streams: texts("noise", "wear", "load"),
		Tallies: texts("stay", "cost"),
		Levels:  texts("stock", "work"),
		Counts:  texts("done", "lost"),
		Routines: []api.Routine{
			{
				Name: "part", Params: []api.Field{field("k", api.Int), field("d", api.Time), field("b", api.Bool)}, Locals: []api.Field{field("x", api.Int), field("mill", api.Bool)},
				Body: []api.Stmt{{Op: api.SWhile, E: api.Expr{Op: api.XBool, N: 1}, Body: []api.Stmt{ride("lane")}}, end()},
			},
			{Name: "idle"},
			{Name: "box", Params: []api.Field{field("k", api.Time)}, Locals: []api.Field{field("part", api.Time)}, Body: []api.Stmt{{Op: api.SHold, E: number(5)}}},
		},
		Starts: []api.Start{{Routine: "part", Args: ints(3, 0, 1), At: 1, Every: 5, Until: 50}, start("idle", 0), start("box", 9, 4)},
		Laws: []api.Law{
			law("parts", 0, term(1, "created", "part"), term(-1, "ended", "part"), term(-1, "inside", "part")),
			law("done", -7, term(3, "entered", "shelf"), term(-3, "left", "shelf"), term(9, "stored", "bin"), term(-1, "counted", "done")),
		},
	}
}

// named has n names, which begin with s.
func named(s string, n int) []string {
	var l []string
	for i := range n {
		l = append(l, fmt.Sprint(s, i))
	}
	return l
}

// each has what is made of n names that begin with s.
func each[T any](s string, n int, create func(string) T) []T {
	var l []T
	for _, name := range named(s, n) {
		l = append(l, create(name))
	}
	return l
}

func aVar(s string) api.Value             { return value(s, api.Int, maxInt) }
func aResource(s string) api.ResourceDecl { return api.ResourceDecl{Name: s, Units: maxUnits} }
func aStore(s string) api.StoreDecl       { return api.StoreDecl{Name: s, Room: maxUnits, Policy: api.Lifo} }
func aBelt(s string) api.BeltDecl         { return api.BeltDecl{Name: s, Length: maxBelt, Step: maxBelt} }
func aField(s string) api.Field           { return field(s, api.Bool) }
func aRoutine(s string) api.Routine       { return api.Routine{Name: s} }

// full is an accepted model in which each list has as many elements as it can have.
func full() api.Model {
	m := api.Model{Name: strings.Repeat("m", 24), Params: each("p", maxDecls, aVar)}
	for _, name := range named("s", maxSites) {
		s := api.SiteDecl{
			Name: name, Vars: each("v", maxDecls, aVar), Resources: each("r", maxDecls, aResource), Stores: each("d", maxDecls, aStore), Belts: each("b", maxDecls, aBelt),
			Queues: named("q", maxDecls), Streams: named("z", maxDecls), Tallies: named("t", maxDecls), Levels: named("l", maxDecls), Counts: named("c", maxDecls),
		}
		for i := range s.Resources {
			s.Resources[i].Cycle = maxTime
			for at := range maxChanges {
				s.Resources[i].Shift = append(s.Resources[i].Shift, api.Change{At: maxTime - maxChanges + at, Units: maxUnits})
			}
			s.Resources[i].Fault = api.Fault{Stream: s.Streams[31-i], Up: always(maxTime), Down: always(0)}
		}
		for _, routine := range named("x", maxRoutines) {
			s.Routines = append(s.Routines, api.Routine{Name: routine, Params: each("a", maxArgs, aField), Locals: each("l", maxSlots-maxArgs, aField), Body: slices.Repeat([]api.Stmt{end()}, 200)})
		}
		for i := range maxDecls {
			s.Starts = append(s.Starts, api.Start{Routine: s.Routines[i/2].Name, Args: ints(0, 1, 0, 1, 1, 0), At: maxTime, Every: maxTime, Until: maxTime})
			s.Laws = append(s.Laws, law(s.Queues[i], maxInt, slices.Repeat([]api.Term{term(maxCoef, "counted", s.Counts[i])}, maxTerms)...))
		}
		m.Sites = append(m.Sites, s)
	}
	for i := range maxDecls {
		m.Links = append(m.Links, link(m.Sites[i/maxSites].Name, m.Sites[(i/maxSites+i%maxSites+1)%maxSites].Name, maxTime))
	}
	m.Links[15].From, m.Links[31].From = "s7", "s8"
	return m
}

// judge keeps the first error that it is told of; it is the second definition of Check.
type judge struct{ errno api.Errno }

// need notes an error unless something holds.
func (j *judge) need(holds bool, errno api.Errno) {
	if j.errno == api.OK && !holds {
		j.errno = errno
	}
}

// is notes an error.
func (j *judge) is(errno api.Errno) { j.need(errno == api.OK, errno) }

// within notes an error unless n is from low to high.
func (j *judge) within(low, n, high int) { j.need(low <= n && n <= high, api.ErrRange) }

// isNew notes what is wrong with a name that follows others.
func (j *judge) isNew(name string, earlier *[]string) {
	j.is(names.Check(name))
	j.need(!slices.Contains(*earlier, name), api.ErrTwice)
	*earlier = append(*earlier, name)
}

// typed notes what is wrong with a type.
func (j *judge) typed(t api.Type) { j.need(t >= 1 && t <= 3, api.ErrArg) }

// fits notes an error unless a number fits a type.
func (j *judge) fits(t api.Type, n int) {
	ranges := map[api.Type][2]int{1: {-maxInt, maxInt}, 2: {0, 1}, 3: {0, maxTime}}
	r, known := ranges[t]
	j.need(known, api.ErrRange)
	j.within(r[0], n, r[1])
}

func (j *judge) values(l []api.Value, earlier *[]string) {
	j.need(len(l) <= maxDecls, api.ErrLong)
	for _, v := range l[:min(len(l), maxDecls)] {
		j.isNew(v.Name, earlier)
		j.typed(v.Type)
		j.fits(v.Type, v.N)
	}
}

func (j *judge) resource(r api.ResourceDecl, s api.SiteDecl) {
	j.within(0, r.Units, maxUnits)
	if len(r.Shift) == 0 {
		j.need(r.Cycle == 0, api.ErrArg)
	} else {
		j.need(len(r.Shift) <= maxChanges, api.ErrLong)
		j.within(1, r.Cycle, maxTime)
	}
	before := -1
	for _, c := range r.Shift {
		j.need(0 <= c.At && c.At < r.Cycle, api.ErrRange)
		j.within(0, c.Units, maxUnits)
		j.need(before < c.At, api.ErrOrder)
		before = c.At
	}
	if r.Fault.Stream == "" {
		j.need(equal(r.Fault, api.Fault{}), api.ErrArg)
		return
	}
	j.need(slices.Contains(s.Streams, r.Fault.Stream), api.ErrNone)
	j.is(dist.Check(r.Fault.Up))
	j.is(dist.Check(r.Fault.Down))
}

func (j *judge) routine(r api.Routine) {
	j.need(len(r.Params) <= maxArgs && len(r.Params)+len(r.Locals) <= maxSlots, api.ErrLong)
	var earlier []string
	for _, l := range [][]api.Field{r.Params, r.Locals} {
		for _, f := range l {
			j.isNew(f.Name, &earlier)
			j.typed(f.Type)
		}
	}
	j.is(stmt.Check(r.Body))
}

func (j *judge) begin(d api.Start, s api.SiteDecl) {
	at := slices.IndexFunc(s.Routines, func(r api.Routine) bool { return r.Name == d.Routine })
	j.need(at >= 0, api.ErrNone)
	if at < 0 {
		return
	}
	params := s.Routines[at].Params
	j.need(len(d.Args) == len(params), api.ErrForm)
	for i := range min(len(params), len(d.Args)) {
		j.fits(params[i].Type, d.Args[i])
	}
	j.within(0, d.At, maxTime)
	j.within(0, d.Every, maxTime)
	j.within(0, d.Until, maxTime)
	j.need(d.Every != 0 || d.Until == 0, api.ErrRange)
}

// subjects has the kinds of which the words of terms count something.
func subjects() map[string]string {
	return map[string]string{"created": "routine", "ended": "routine", "inside": "routine", "stored": "store", "entered": "store", "left": "store", "counted": "count"}
}

func (j *judge) law(l api.Law, s api.SiteDecl) {
	j.need(len(l.Terms) > 0, api.ErrShort)
	j.need(len(l.Terms) <= maxTerms, api.ErrLong)
	for _, t := range l.Terms {
		kind, known := subjects()[t.What]
		j.need(known, api.ErrArg)
		j.need(slices.ContainsFunc(declared(s), func(d decl) bool { return d.kind == kind && d.name == t.Name }), api.ErrNone)
		j.within(-maxCoef, t.Coef, maxCoef)
		j.need(t.Coef != 0, api.ErrRange)
	}
	j.within(-maxInt, l.Total, maxInt)
}

func (j *judge) site(s api.SiteDecl) {
	var earlier []string
	j.values(s.Vars, &earlier)
	j.need(len(s.Resources) <= maxDecls, api.ErrLong)
	for _, r := range s.Resources {
		j.isNew(r.Name, &earlier)
		j.resource(r, s)
	}
	j.need(len(s.Stores) <= maxDecls, api.ErrLong)
	for _, d := range s.Stores {
		j.isNew(d.Name, &earlier)
		j.within(1, d.Room, maxUnits)
		j.need(d.Policy >= 1 && d.Policy <= 3, api.ErrArg)
	}
	j.need(len(s.Belts) <= maxDecls, api.ErrLong)
	for _, b := range s.Belts {
		j.isNew(b.Name, &earlier)
		j.within(1, b.Length, maxBelt)
		j.within(1, b.Step, maxBelt)
	}
	for _, l := range [][]string{s.Queues, s.Streams, s.Tallies, s.Levels, s.Counts} {
		j.need(len(l) <= maxDecls, api.ErrLong)
		for _, name := range l {
			j.isNew(name, &earlier)
		}
	}
	j.need(len(s.Routines) <= maxRoutines, api.ErrLong)
	for _, r := range s.Routines {
		j.isNew(r.Name, &earlier)
		j.routine(r)
	}
	j.need(len(s.Starts) <= maxDecls, api.ErrLong)
	for _, d := range s.Starts {
		j.begin(d, s)
	}
	j.need(len(s.Laws) <= maxDecls, api.ErrLong)
	var laws []string
	for _, l := range s.Laws {
		j.isNew(l.Name, &laws)
		j.law(l, s)
	}
}

// verdict is the error that the second definition has for a model.
func verdict(m api.Model) api.Errno {
	j := &judge{}
	j.is(names.Check(m.Name))
	j.values(m.Params, &[]string{})
	j.need(len(m.Sites) > 0, api.ErrShort)
	j.need(len(m.Sites) <= maxSites, api.ErrLong)
	var sites []string
	for _, s := range m.Sites {
		j.isNew(s.Name, &sites)
		j.site(s)
	}
	j.need(len(m.Links) <= maxDecls, api.ErrLong)
	for i, l := range m.Links {
		j.need(slices.Contains(sites, l.From) && slices.Contains(sites, l.To), api.ErrNone)
		j.need(l.From != l.To, api.ErrArg)
		j.within(1, l.Delay, maxTime)
		for _, before := range m.Links[:i] {
			j.need(before.From != l.From || before.To != l.To, api.ErrTwice)
		}
	}
	return j.errno
}

// decl is a declaration: its kind, its number among those of the kind, and its name.
type decl struct {
	kind  string
	index int
	name  string
}

// declared has the declarations of a site in their order.
func declared(s api.SiteDecl) []decl {
	fields := texts("Vars", "Resources", "Stores", "Belts", "Queues", "Streams", "Tallies", "Levels", "Counts", "Routines")
	var l []decl
	for i, kind := range kinds() {
		v := reflect.ValueOf(s).FieldByName(fields[i])
		for k := range v.Len() {
			x := v.Index(k)
			if x.Kind() == reflect.Struct {
				x = x.FieldByName("Name")
			}
			l = append(l, decl{kind, k, x.String()})
		}
	}
	return l
}

// find is the first declaration with a name.
func find(s api.SiteDecl, name string) decl {
	for _, d := range declared(s) {
		if d.name == name {
			return d
		}
	}
	return decl{index: -1}
}

// copyOf is a value in new memory, with empty lists in place of nil.
func copyOf(v reflect.Value) reflect.Value {
	x := reflect.New(v.Type()).Elem()
	x.Set(v)
	switch v.Kind() {
	case reflect.Struct:
		for i := range v.NumField() {
			x.Field(i).Set(copyOf(v.Field(i)))
		}
	case reflect.Slice:
		x.Set(reflect.MakeSlice(v.Type(), v.Len(), v.Len()))
		for i := range v.Len() {
			x.Index(i).Set(copyOf(v.Index(i)))
		}
	}
	return x
}

// copied is x in new memory, with empty lists in place of nil.
func copied[T any](x T) T { return copyOf(reflect.ValueOf(x)).Interface().(T) }

// equal tells whether two values are equal, as R3 says.
func equal[T any](a, b T) bool { return reflect.DeepEqual(copied(a), copied(b)) }

// brief is a text of a model or a part of one for a message.
func brief(x any) string {
	s := fmt.Sprintf("%+v", x)
	return s[:min(len(s), 5000)]
}

// testError compares the result of Check with the one that is wanted.
func testError(t *testing.T, m api.Model, want api.Errno) {
	t.Helper()
	if got := model.Check(m); got != want {
		t.Errorf("Check(%s) = %v, not %v", brief(m), got, want)
	}
}

// testVerdict compares the result of Check with the second definition.
func testVerdict(t *testing.T, m api.Model) {
	t.Helper()
	if got, want := model.Check(m), verdict(m); got != want {
		t.Fatalf("Check(%s) = %v, not %v", brief(m), got, want)
	}
}

// someInts has the ends of all ranges, and numbers beside them and far beyond.
func someInts() []int {
	l := ints(math.MinInt, math.MinInt+1, math.MaxInt, -1<<32, 1<<32, 1<<32+1, 1<<32+3, 256, 257, 24, 25, 32)
	for _, n := range ints(0, maxChanges, maxUnits, maxTime, maxInt) {
		l = append(l, n-1, n, n+1, -n-1, -n, -n+1)
	}
	for n := -4; n <= 12; n++ {
		l = append(l, n)
	}
	slices.Sort(l)
	return slices.Compact(l)
}

// someTexts has names, texts that are none, and the words of terms.
func someTexts() []string {
	return texts("", "a", "z_9", strings.Repeat("a", 24), strings.Repeat("a", 25), "if", "level", "free", "A", "9", "_a", "a b", "a.b", "a\x00", "\xff", "ü", "Created", "created ",
		"created", "ended", "inside", "stored", "entered", "left", "counted", "shop", "plant", "yard", "dock", "n", "fast", "gap", "total", "open", "mill", "crane", "shelf", "bin",
		"lane", "ramp", "hall", "noise", "wear", "stay", "stock", "done", "lost", "part", "idle", "box", "k", "x", "parts")
}

// parts has all parts of v: itself, its fields and its elements.
func parts(v reflect.Value) []reflect.Value {
	all := []reflect.Value{v}
	switch v.Kind() {
	case reflect.Struct:
		for i := range v.NumField() {
			all = append(all, parts(v.Field(i))...)
		}
	case reflect.Slice:
		for i := range v.Len() {
			all = append(all, parts(v.Index(i))...)
		}
	}
	return all
}

// join is the list of the elements of several lists.
func join(t reflect.Type, l ...reflect.Value) reflect.Value {
	x := reflect.MakeSlice(t, 0, 0)
	for _, v := range l {
		x = reflect.AppendSlice(x, v)
	}
	return x
}

// lists has lists that differ from v in one element, and empty ones.
func lists(v reflect.Value) []reflect.Value {
	n := v.Len()
	zero := reflect.MakeSlice(v.Type(), 1, 1)
	l := []reflect.Value{reflect.Zero(v.Type()), zero.Slice(0, 0), join(v.Type(), zero, v), join(v.Type(), v, zero), reflect.MakeSlice(v.Type(), maxDecls+1, maxDecls+1)}
	for i := range n {
		l = append(l, join(v.Type(), v.Slice(0, i), v.Slice(i+1, n)), join(v.Type(), v.Slice(0, i+1), v.Slice(i, n)), join(v.Type(), v, v.Slice(i, i+1)))
		if i > 0 {
			l = append(l, join(v.Type(), v.Slice(0, i-1), v.Slice(i, i+1), v.Slice(i-1, i), v.Slice(i+1, n)))
		}
	}
	return l
}

// others has other values for a part; for a struct it has none, as its fields are parts, too.
func others(v reflect.Value) []reflect.Value {
	var l []reflect.Value
	switch v.Kind() {
	case reflect.Int:
		for _, n := range someInts() {
			l = append(l, reflect.ValueOf(n).Convert(v.Type()))
		}
	case reflect.String:
		for _, s := range someTexts() {
			l = append(l, reflect.ValueOf(s))
		}
	case reflect.Bool:
		l = append(l, reflect.ValueOf(!v.Bool()))
	case reflect.Slice:
		l = lists(v)
	}
	return l
}

// change puts each of the other values into v, one after the other, and calls visit; in the end v is as before.
func change(v reflect.Value, visit func()) {
	before := reflect.ValueOf(v.Interface())
	for _, x := range others(v) {
		v.Set(x)
		visit()
	}
	v.Set(before)
}

// damaged is a copy of a model in which n parts have other values.
func damaged(r *rand.Rand, m api.Model, n int) api.Model {
	m = copied(m)
	for range n {
		all := parts(reflect.ValueOf(&m).Elem())
		v := pick(r, all)
		if l := others(v); len(l) > 0 {
			v.Set(pick(r, l))
		}
	}
	return m
}

// P11.1

func TestExamplesOfCheck(t *testing.T) {
	twice := only(api.SiteDecl{Name: "plant", Resources: []api.ResourceDecl{{Name: "m"}}, Queues: texts("m")})
	testError(t, twice, api.ErrTwice)
	store := api.SiteDecl{Name: "plant", Stores: []api.StoreDecl{aStore("shelf")}, Laws: []api.Law{law("a", 0, term(1, "inside", "shelf"))}}
	testError(t, only(store), api.ErrNone)
	store.Laws[0].Terms[0].What = "stored"
	testError(t, only(store), api.OK)
	late := api.SiteDecl{Name: "plant", Routines: []api.Routine{{Name: "part"}}, Starts: []api.Start{{Routine: "part", Until: 5}}}
	testError(t, only(late), api.ErrRange)
	late.Starts[0].Every = 1
	testError(t, only(late), api.OK)
	m := api.Model{Name: "m", Sites: []api.SiteDecl{{Name: "a"}, {Name: "b"}}, Links: []api.Link{link("a", "a", 1)}}
	testError(t, m, api.ErrArg)
	m.Links[0].To = "b"
	testError(t, m, api.OK)
	testError(t, api.Model{}, api.ErrName)
	testError(t, api.Model{Name: "m"}, api.ErrShort)
	testError(t, api.Model{Name: "m", Sites: []api.SiteDecl{}}, api.ErrShort)
	testError(t, api.Model{Name: "m", Sites: []api.SiteDecl{{}}}, api.ErrName)
	testError(t, only(api.SiteDecl{Name: "a"}), api.OK)
	testError(t, shop(), api.OK)
	testError(t, full(), api.OK)
	testError(t, copied(shop()), api.OK)
}

// fault is an error of Check, and a change that causes it in shop.
type fault struct {
	errno api.Errno
	cause func(m *api.Model)
}

// valueFaults has the faults of a list of three values of the types Int, Bool and Time, in the order of Check.
func valueFaults(list func(m *api.Model) *[]api.Value) []fault {
	at := func(i int, errno api.Errno, cause func(v *api.Value)) fault {
		return fault{errno, func(m *api.Model) { cause(&(*list(m))[i]) }}
	}
	twice := func(i, earlier int) fault {
		return fault{api.ErrTwice, func(m *api.Model) { l := *list(m); l[i].Name = l[earlier].Name }}
	}
	return []fault{
		{api.ErrLong, func(m *api.Model) { l := list(m); *l = long(*l, maxDecls+1) }},
		at(0, api.ErrName, func(v *api.Value) { v.Name = "" }),
		at(0, api.ErrArg, func(v *api.Value) { v.Type = 0 }),
		at(0, api.ErrRange, func(v *api.Value) { v.N = maxInt + 1 }),
		at(1, api.ErrName, func(v *api.Value) { v.Name = "Open" }),
		twice(1, 0),
		at(1, api.ErrArg, func(v *api.Value) { v.Type = 4 }),
		at(1, api.ErrRange, func(v *api.Value) { v.N = 2 }),
		at(2, api.ErrName, func(v *api.Value) { v.Name = "time" }),
		twice(2, 1),
		twice(2, 0),
		at(2, api.ErrArg, func(v *api.Value) { v.Type = -1 }),
		at(2, api.ErrRange, func(v *api.Value) { v.N = -1 }),
	}
}

// resourceFaults has the faults of the resources of the first site, in the order of Check.
func resourceFaults() []fault {
	at := func(i int, errno api.Errno, cause func(r *api.ResourceDecl)) fault {
		return fault{errno, func(m *api.Model) { cause(&first(m).Resources[i]) }}
	}
	return []fault{
		{api.ErrLong, func(m *api.Model) { first(m).Resources = long(first(m).Resources, maxDecls+1) }},
		at(0, api.ErrName, func(r *api.ResourceDecl) { r.Name = "9" }),
		at(0, api.ErrTwice, func(r *api.ResourceDecl) { r.Name = "since" }),
		at(0, api.ErrRange, func(r *api.ResourceDecl) { r.Units = -1 }),
		at(0, api.ErrArg, func(r *api.ResourceDecl) { r.Shift = nil }),
		at(0, api.ErrLong, func(r *api.ResourceDecl) { r.Shift = long(r.Shift, maxChanges+1) }),
		at(0, api.ErrRange, func(r *api.ResourceDecl) { r.Cycle = maxTime + 1 }),
		at(0, api.ErrRange, func(r *api.ResourceDecl) { r.Shift[0].At = -1 }),
		at(0, api.ErrRange, func(r *api.ResourceDecl) { r.Shift[0].Units = maxUnits + 1 }),
		at(0, api.ErrRange, func(r *api.ResourceDecl) { r.Shift[1].At = 24 }),
		at(0, api.ErrOrder, func(r *api.ResourceDecl) { r.Shift[1].At = 0 }),
		at(0, api.ErrRange, func(r *api.ResourceDecl) { r.Shift[2].Units = -1 }),
		at(0, api.ErrOrder, func(r *api.ResourceDecl) { r.Shift[2].At = 7 }),
		at(0, api.ErrArg, func(r *api.ResourceDecl) { r.Fault.Stream = "" }),
		at(0, api.ErrNone, func(r *api.ResourceDecl) { r.Fault.Stream = "hall" }),
		at(0, api.ErrArg, func(r *api.ResourceDecl) { r.Fault.Up = api.Dist{} }),
		at(0, api.ErrRange, func(r *api.ResourceDecl) { r.Fault.Up.A = -1 }),
		at(0, api.ErrForm, func(r *api.ResourceDecl) { r.Fault.Down.Values = nil }),
		at(1, api.ErrName, func(r *api.ResourceDecl) { r.Name = "resource" }),
		at(1, api.ErrTwice, func(r *api.ResourceDecl) { r.Name = "mill" }),
		at(1, api.ErrRange, func(r *api.ResourceDecl) { r.Units = maxUnits + 1 }),
		at(1, api.ErrArg, func(r *api.ResourceDecl) { r.Cycle = 1 }),
		at(1, api.ErrArg, func(r *api.ResourceDecl) { r.Fault.Up.B = 1 }),
		at(2, api.ErrTwice, func(r *api.ResourceDecl) { r.Name = "mill" }),
		at(2, api.ErrRange, func(r *api.ResourceDecl) { r.Cycle = 3 }),
		at(2, api.ErrNone, func(r *api.ResourceDecl) { r.Fault.Stream = "none" }),
	}
}

// objectFaults has the faults of the stores, belts and of what has a name only, in the order of Check.
func objectFaults() []fault {
	store := func(i int, errno api.Errno, cause func(d *api.StoreDecl)) fault {
		return fault{errno, func(m *api.Model) { cause(&first(m).Stores[i]) }}
	}
	belt := func(i int, errno api.Errno, cause func(b *api.BeltDecl)) fault {
		return fault{errno, func(m *api.Model) { cause(&first(m).Belts[i]) }}
	}
	l := []fault{
		{api.ErrLong, func(m *api.Model) { first(m).Stores = long(first(m).Stores, maxDecls+1) }},
		store(0, api.ErrName, func(d *api.StoreDecl) { d.Name = "A" }),
		store(0, api.ErrTwice, func(d *api.StoreDecl) { d.Name = "desk" }),
		store(0, api.ErrRange, func(d *api.StoreDecl) { d.Room = 0 }),
		store(0, api.ErrArg, func(d *api.StoreDecl) { d.Policy = 4 }),
		store(1, api.ErrName, func(d *api.StoreDecl) { d.Name = "fifo" }),
		store(1, api.ErrTwice, func(d *api.StoreDecl) { d.Name = "shelf" }),
		store(1, api.ErrRange, func(d *api.StoreDecl) { d.Room = maxUnits + 1 }),
		store(2, api.ErrArg, func(d *api.StoreDecl) { d.Policy = 0 }),
		{api.ErrLong, func(m *api.Model) { first(m).Belts = long(first(m).Belts, maxDecls+1) }},
		belt(0, api.ErrName, func(b *api.BeltDecl) { b.Name = "la ne" }),
		belt(0, api.ErrTwice, func(b *api.BeltDecl) { b.Name = "stack" }),
		belt(0, api.ErrRange, func(b *api.BeltDecl) { b.Length = 0 }),
		belt(0, api.ErrRange, func(b *api.BeltDecl) { b.Step = maxBelt + 1 }),
		belt(1, api.ErrTwice, func(b *api.BeltDecl) { b.Name = "lane" }),
		belt(1, api.ErrRange, func(b *api.BeltDecl) { b.Step = 0 }),
	}
	for _, c := range []struct {
		list  func(s *api.SiteDecl) *[]string
		twice string
		// The stream wear is left as it is, because a resource names it.
		second int
	}{
		{func(s *api.SiteDecl) *[]string { return &s.Queues }, "ramp", 1},
		{func(s *api.SiteDecl) *[]string { return &s.Streams }, "gate", 2},
		{func(s *api.SiteDecl) *[]string { return &s.Tallies }, "load", 1},
		{func(s *api.SiteDecl) *[]string { return &s.Levels }, "cost", 1},
		{func(s *api.SiteDecl) *[]string { return &s.Counts }, "total", 1},
	} {
		at := func(i int, errno api.Errno, name string) fault {
			return fault{errno, func(m *api.Model) { (*c.list(first(m)))[i] = name }}
		}
		l = append(l, fault{api.ErrLong, func(m *api.Model) { l := c.list(first(m)); *l = long(*l, maxDecls+1) }},
			at(0, api.ErrName, "_"), at(0, api.ErrTwice, c.twice), at(c.second, api.ErrName, "count"),
			fault{api.ErrTwice, func(m *api.Model) { l := *c.list(first(m)); l[c.second] = l[0] }})
	}
	return l
}

// routineFaults has the faults of the routines of the first site, in the order of Check.
func routineFaults() []fault {
	at := func(i int, errno api.Errno, cause func(r *api.Routine)) fault {
		return fault{errno, func(m *api.Model) { cause(&first(m).Routines[i]) }}
	}
	return []fault{
		{api.ErrLong, func(m *api.Model) { first(m).Routines = long(first(m).Routines, maxRoutines+1) }},
		at(0, api.ErrName, func(r *api.Routine) { r.Name = "routine" }),
		at(0, api.ErrTwice, func(r *api.Routine) { r.Name = "lost" }),
		at(0, api.ErrLong, func(r *api.Routine) { r.Params = long(r.Params, maxArgs+1) }),
		at(0, api.ErrLong, func(r *api.Routine) { r.Locals = long(r.Locals, maxSlots-3+1) }),
		at(0, api.ErrName, func(r *api.Routine) { r.Params[0].Name = "" }),
		at(0, api.ErrArg, func(r *api.Routine) { r.Params[0].Type = 0 }),
		at(0, api.ErrName, func(r *api.Routine) { r.Params[1].Name = "dur" }),
		at(0, api.ErrTwice, func(r *api.Routine) { r.Params[1].Name = "k" }),
		at(0, api.ErrArg, func(r *api.Routine) { r.Params[1].Type = 4 }),
		at(0, api.ErrName, func(r *api.Routine) { r.Locals[0].Name = "X" }),
		at(0, api.ErrTwice, func(r *api.Routine) { r.Locals[0].Name = "d" }),
		at(0, api.ErrArg, func(r *api.Routine) { r.Locals[0].Type = 100 }),
		at(0, api.ErrTwice, func(r *api.Routine) { r.Locals[1].Name = "x" }),
		at(0, api.ErrArg, func(r *api.Routine) { r.Locals[1].Type = -3 }),
		at(0, api.ErrLong, func(r *api.Routine) { r.Body = slices.Repeat([]api.Stmt{end()}, 201) }),
		at(0, api.ErrName, func(r *api.Routine) { r.Body[0].Body[0].Name = "ride" }),
		at(0, api.ErrArg, func(r *api.Routine) { r.Body[1].Name = "x" }),
		at(1, api.ErrName, func(r *api.Routine) { r.Name = "Idle" }),
		at(1, api.ErrTwice, func(r *api.Routine) { r.Name = "part" }),
		at(1, api.ErrLong, func(r *api.Routine) { r.Locals = make([]api.Field, maxSlots+1) }),
		at(2, api.ErrTwice, func(r *api.Routine) { r.Name = "part" }),
		at(2, api.ErrTwice, func(r *api.Routine) { r.Locals[0].Name = "k" }),
		at(2, api.ErrRange, func(r *api.Routine) { r.Body[0].E.N = maxInt + 1 }),
	}
}

// startFaults has the faults of the starts of the first site, in the order of Check.
func startFaults() []fault {
	at := func(i int, errno api.Errno, cause func(d *api.Start)) fault {
		return fault{errno, func(m *api.Model) { cause(&first(m).Starts[i]) }}
	}
	return []fault{
		{api.ErrLong, func(m *api.Model) { first(m).Starts = long(first(m).Starts, maxDecls+1) }},
		at(0, api.ErrNone, func(d *api.Start) { d.Routine = "hall" }),
		at(0, api.ErrForm, func(d *api.Start) { d.Args = ints(-maxInt - 1) }),
		at(0, api.ErrRange, func(d *api.Start) { d.Args = ints(3, -1, 1) }),
		at(0, api.ErrRange, func(d *api.Start) { d.At = -1 }),
		at(0, api.ErrRange, func(d *api.Start) { d.Every = 0 }),
		at(1, api.ErrNone, func(d *api.Start) { d.Routine = "" }),
		at(1, api.ErrForm, func(d *api.Start) { d.Args = ints(0) }),
		at(1, api.ErrRange, func(d *api.Start) { d.Until = 1 }),
		at(2, api.ErrNone, func(d *api.Start) { d.Routine = "none" }),
		at(2, api.ErrForm, func(d *api.Start) { d.Args = nil }),
		at(2, api.ErrRange, func(d *api.Start) { d.Every = maxTime + 1 }),
	}
}

// lawFaults has the faults of the laws of the first site, in the order of Check.
func lawFaults() []fault {
	at := func(i int, errno api.Errno, cause func(l *api.Law)) fault {
		return fault{errno, func(m *api.Model) { cause(&first(m).Laws[i]) }}
	}
	return []fault{
		{api.ErrLong, func(m *api.Model) { first(m).Laws = long(first(m).Laws, maxDecls+1) }},
		at(0, api.ErrName, func(l *api.Law) { l.Name = "conserve" }),
		at(0, api.ErrShort, func(l *api.Law) { l.Terms = nil }),
		at(0, api.ErrLong, func(l *api.Law) { l.Terms = long(l.Terms, maxTerms+1) }),
		at(0, api.ErrArg, func(l *api.Law) { l.Terms[0].What = "free" }),
		at(0, api.ErrNone, func(l *api.Law) { l.Terms[0].Name = "shelf" }),
		at(0, api.ErrRange, func(l *api.Law) { l.Terms[0].Coef = 0 }),
		at(0, api.ErrArg, func(l *api.Law) { l.Terms[1].What = "" }),
		at(0, api.ErrNone, func(l *api.Law) { l.Terms[1].Name = "" }),
		at(0, api.ErrRange, func(l *api.Law) { l.Terms[1].Coef = maxCoef + 1 }),
		at(0, api.ErrNone, func(l *api.Law) { l.Terms[2].What = "counted" }),
		at(0, api.ErrRange, func(l *api.Law) { l.Total = maxInt + 1 }),
		at(1, api.ErrName, func(l *api.Law) { l.Name = "" }),
		at(1, api.ErrTwice, func(l *api.Law) { l.Name = "parts" }),
		at(1, api.ErrShort, func(l *api.Law) { l.Terms = []api.Term{} }),
		at(1, api.ErrNone, func(l *api.Law) { l.Terms[3].Name = "part" }),
		at(1, api.ErrRange, func(l *api.Law) { l.Total = -maxInt - 1 }),
	}
}

// laterFaults has the faults of the later sites and of the links, in the order of Check.
func laterFaults() []fault {
	return []fault{
		{api.ErrName, func(m *api.Model) { m.Sites[1].Name = "site" }},
		{api.ErrTwice, func(m *api.Model) { m.Sites[1].Name = "plant" }},
		{api.ErrArg, func(m *api.Model) { m.Sites[1].Vars[0].Type = 0 }},
		{api.ErrTwice, func(m *api.Model) { m.Sites[1].Queues[1] = "yard" }},
		{api.ErrArg, func(m *api.Model) { m.Sites[1].Routines[1].Body = make([]api.Stmt, 1) }},
		{api.ErrNone, func(m *api.Model) { m.Sites[1].Starts[0].Routine = "part" }},
		{api.ErrNone, func(m *api.Model) { m.Sites[1].Laws[0].Terms[0].Name = "done" }},
		{api.ErrName, func(m *api.Model) { m.Sites[2].Name = "" }},
		{api.ErrTwice, func(m *api.Model) { m.Sites[2].Name = "yard" }},
		{api.ErrTwice, func(m *api.Model) { m.Sites[2].Name = "plant" }},
		{api.ErrRange, func(m *api.Model) { m.Sites[2].Resources = []api.ResourceDecl{{Name: "mill", Units: -1}} }},
		{api.ErrShort, func(m *api.Model) { m.Sites[2].Laws = []api.Law{{Name: "parts"}} }},
		{api.ErrLong, func(m *api.Model) { m.Links = long(m.Links, maxDecls+1) }},
		{api.ErrNone, func(m *api.Model) { m.Links[0].From = "Plant" }},
		{api.ErrNone, func(m *api.Model) { m.Links[0].To = "shop" }},
		{api.ErrArg, func(m *api.Model) { m.Links[0].To = "plant" }},
		{api.ErrRange, func(m *api.Model) { m.Links[0].Delay = 0 }},
		{api.ErrNone, func(m *api.Model) { m.Links[1].From = "" }},
		{api.ErrRange, func(m *api.Model) { m.Links[1].Delay = maxTime + 1 }},
		{api.ErrTwice, func(m *api.Model) { m.Links[1].From, m.Links[1].To = "plant", "yard" }},
		{api.ErrNone, func(m *api.Model) { m.Links[2].To = "mill" }},
		{api.ErrArg, func(m *api.Model) { m.Links[2].From, m.Links[2].To = "dock", "dock" }},
		{api.ErrTwice, func(m *api.Model) { m.Links[2].From, m.Links[2].To = "plant", "yard" }},
	}
}

// faults has faults of all parts of shop, in the order of Check.
func faults() []fault {
	return slices.Concat(
		[]fault{{api.ErrName, func(m *api.Model) { m.Name = "model" }}},
		valueFaults(func(m *api.Model) *[]api.Value { return &m.Params }),
		[]fault{
			{api.ErrShort, func(m *api.Model) { m.Sites = nil }},
			{api.ErrLong, func(m *api.Model) { m.Sites = long(m.Sites, maxSites+1) }},
			{api.ErrName, func(m *api.Model) { first(m).Name = "1" }},
		},
		valueFaults(func(m *api.Model) *[]api.Value { return &first(m).Vars }),
		resourceFaults(), objectFaults(), routineFaults(), startFaults(), lawFaults(), laterFaults(),
	)
}

// broken is shop with faults, the last one first, so that each can spoil what the later ones need.
func broken(l ...fault) api.Model {
	m := shop()
	for _, f := range slices.Backward(l) {
		f.cause(&m)
	}
	return m
}

func TestEachErrorAlone(t *testing.T) {
	found := map[api.Errno]bool{}
	for i, f := range faults() {
		found[f.errno] = true
		m := broken(f)
		if got := model.Check(m); got != f.errno {
			t.Errorf("fault %d: Check(%s) = %v, not %v", i, brief(m), got, f.errno)
		}
		if got := verdict(m); got != f.errno {
			t.Errorf("fault %d: the second definition has %v for %s", i, got, brief(m))
		}
	}
	for _, errno := range []api.Errno{api.ErrArg, api.ErrRange, api.ErrName, api.ErrTwice, api.ErrNone, api.ErrLong, api.ErrShort, api.ErrForm, api.ErrOrder} {
		if !found[errno] {
			t.Errorf("no fault has the error %v", errno)
		}
	}
}

func TestFirstOfTwoErrors(t *testing.T) {
	all := faults()
	for i, a := range all {
		for k, b := range all[i+1:] {
			m := broken(a, b)
			if got := model.Check(m); got != a.errno {
				t.Fatalf("faults %d and %d: Check(%s) = %v, not %v", i, i+1+k, brief(m), got, a.errno)
			}
		}
	}
}

func TestFirstOfManyErrors(t *testing.T) {
	r := rand.New(rand.NewPCG(11, 1))
	all := faults()
	for range 3000 {
		var l []fault
		for _, f := range all {
			if r.IntN(40) == 0 {
				l = append(l, f)
			}
		}
		m := broken(l...)
		want := api.OK
		if len(l) > 0 {
			want = l[0].errno
		}
		testError(t, m, want)
		testVerdict(t, m)
	}
	testError(t, broken(all...), api.ErrName)
	for i := range all {
		testError(t, broken(all[i:]...), all[i].errno)
	}
}

func TestEachOtherValueOfEachPart(t *testing.T) {
	m := copied(shop())
	tried, accepted := 0, 0
	for _, v := range parts(reflect.ValueOf(&m).Elem()) {
		change(v, func() {
			tried++
			testVerdict(t, m)
			if model.Check(m) == api.OK {
				accepted++
			}
		})
	}
	if !equal(m, shop()) || tried < 10000 || accepted < 1000 {
		t.Errorf("%d models were tried, %d accepted", tried, accepted)
	}
}

func TestSeveralOtherValuesAtOnce(t *testing.T) {
	r := rand.New(rand.NewPCG(11, 2))
	found := map[api.Errno]int{}
	for range 6000 {
		m := damaged(r, shop(), 1+r.IntN(4))
		testVerdict(t, m)
		found[model.Check(m)]++
	}
	if found[api.OK] < 100 || found[api.ErrForm] < 1 || len(found) < 10 {
		t.Errorf("models with these errors were tried: %v", found)
	}
}

// growth is a list with its limit: grow gives the list n valid elements.
type growth struct {
	limit int
	grow  func(m *api.Model, n int)
}

// growths has all lists of a model that have a limit.
func growths() map[string]growth {
	return map[string]growth{
		"Params":    {maxDecls, func(m *api.Model, n int) { m.Params = each("y", n, aVar) }},
		"Vars":      {maxDecls, func(m *api.Model, n int) { first(m).Vars = each("y", n, aVar) }},
		"Resources": {maxDecls, func(m *api.Model, n int) { first(m).Resources = each("y", n, aResource) }},
		"Stores":    {maxDecls, func(m *api.Model, n int) { m.Sites[2].Stores = each("y", n, aStore) }},
		"Belts":     {maxDecls, func(m *api.Model, n int) { first(m).Belts = each("y", n, aBelt) }},
		"Queues":    {maxDecls, func(m *api.Model, n int) { first(m).Queues = named("y", n) }},
		"Streams":   {maxDecls, func(m *api.Model, n int) { m.Sites[2].Streams = named("y", n) }},
		"Tallies":   {maxDecls, func(m *api.Model, n int) { first(m).Tallies = named("y", n) }},
		"Levels":    {maxDecls, func(m *api.Model, n int) { first(m).Levels = named("y", n) }},
		"Counts":    {maxDecls, func(m *api.Model, n int) { m.Sites[2].Counts = named("y", n) }},
		"Routines":  {maxRoutines, func(m *api.Model, n int) { m.Sites[2].Routines = each("y", n, aRoutine) }},
		"Shift": {maxChanges, func(m *api.Model, n int) {
			r := &first(m).Resources[0]
			r.Shift, r.Cycle = nil, n
			for i := range n {
				r.Shift = append(r.Shift, api.Change{At: i})
			}
		}},
		"Params of a routine": {maxArgs, func(m *api.Model, n int) { first(m).Routines[1].Params = each("y", n, aField); first(m).Starts = nil }},
		"Locals":              {maxSlots, func(m *api.Model, n int) { first(m).Routines[1].Locals = each("y", n, aField) }},
		"Starts":              {maxDecls, func(m *api.Model, n int) { first(m).Starts = slices.Repeat([]api.Start{start("idle", 3)}, n) }},
		"Laws":                {maxDecls, func(m *api.Model, n int) { first(m).Laws = each("y", n, aLaw) }},
		"Terms": {maxTerms, func(m *api.Model, n int) {
			first(m).Laws[0].Terms = slices.Repeat([]api.Term{term(1, "left", "bin")}, n)
		}},
		"Sites": {maxSites, func(m *api.Model, n int) {
			m.Sites = each("y", n, func(s string) api.SiteDecl { return api.SiteDecl{Name: s} })
			m.Links = nil
		}},
		"Links": {maxDecls, func(m *api.Model, n int) {
			m.Sites = each("y", 9, func(s string) api.SiteDecl { return api.SiteDecl{Name: s} })
			m.Links = nil
			for i := range n {
				m.Links = append(m.Links, link(m.Sites[i%9].Name, m.Sites[(i+i/9%8+1)%9].Name, 1+i))
			}
		}},
	}
}

func aLaw(s string) api.Law { return law(s, 0, term(1, "counted", "done")) }

func TestNumbersOfElements(t *testing.T) {
	for name, row := range growths() {
		for _, n := range ints(1, 2, row.limit-1, row.limit, row.limit+1, row.limit+2, 2*row.limit, 72) {
			m := shop()
			row.grow(&m, n)
			want := api.OK
			if n > row.limit {
				want = api.ErrLong
			}
			if got := model.Check(m); got != want {
				t.Errorf("%d elements of %s: %v, not %v", n, name, got, want)
			}
			testVerdict(t, m)
		}
	}
}

func TestEmptyLists(t *testing.T) {
	for name, row := range growths() {
		m := shop()
		row.grow(&m, 0)
		want := api.OK
		if name == "Sites" || name == "Terms" {
			want = api.ErrShort
		}
		testError(t, m, want)
	}
	// A site needs no declarations of a kind, unless something names one.
	m := shop()
	first(&m).Routines = nil
	testError(t, m, api.ErrNone)
	first(&m).Starts = nil
	testError(t, m, api.ErrNone)
	first(&m).Laws = first(&m).Laws[1:]
	testError(t, m, api.OK)
	first(&m).Counts = nil
	testError(t, m, api.ErrNone)
	first(&m).Laws = nil
	testError(t, m, api.OK)
	first(&m).Streams = nil
	testError(t, m, api.ErrNone)
}

func TestParamsAndLocalsTogether(t *testing.T) {
	for params := range 20 {
		for locals := range 20 {
			want := api.OK
			if params > maxArgs || params+locals > maxSlots {
				want = api.ErrLong
			}
			r := api.Routine{Name: "r", Params: each("a", params, aField), Locals: each("b", locals, aField)}
			testError(t, only(api.SiteDecl{Name: "s", Routines: []api.Routine{r}}), want)
			// The number is examined before the fields.
			zero := api.Routine{Name: "r", Params: make([]api.Field, params), Locals: make([]api.Field, locals), Body: make([]api.Stmt, 1)}
			if want == api.OK && params+locals > 0 {
				want = api.ErrName
			} else if want == api.OK {
				want = api.ErrArg
			}
			testError(t, only(api.SiteDecl{Name: "s", Routines: []api.Routine{zero}}), want)
		}
	}
}

// testEnds puts numbers into a place of shop: those from low to high are accepted, others are ErrRange.
func testEnds(t *testing.T, what string, low, high int, place func(m *api.Model) *int) {
	t.Helper()
	for _, n := range append(someInts(), low-2, low-1, low, low+1, high-1, high, high+1, high+2, low/2+high/2) {
		m := shop()
		*place(&m) = n
		want := api.OK
		if n < low || n > high {
			want = api.ErrRange
		}
		if got := model.Check(m); got != want {
			t.Errorf("%s %d: %v, not %v", what, n, got, want)
		}
	}
}

func TestEndsOfRanges(t *testing.T) {
	for i, high := range ints(maxInt, 1, maxTime) {
		low := ints(-maxInt, 0, 0)[i]
		testEnds(t, "parameter", low, high, func(m *api.Model) *int { return &m.Params[i].N })
		testEnds(t, "variable", low, high, func(m *api.Model) *int { return &first(m).Vars[i].N })
	}
	testEnds(t, "variable of the second site", 0, maxTime, func(m *api.Model) *int { return &m.Sites[1].Vars[0].N })
	testEnds(t, "argument", -maxInt, maxInt, func(m *api.Model) *int { return &first(m).Starts[0].Args[0] })
	testEnds(t, "argument", 0, maxTime, func(m *api.Model) *int { return &first(m).Starts[0].Args[1] })
	testEnds(t, "argument", 0, 1, func(m *api.Model) *int { return &first(m).Starts[0].Args[2] })
	testEnds(t, "argument", 0, maxTime, func(m *api.Model) *int { return &first(m).Starts[2].Args[0] })
	testEnds(t, "argument in the second site", 0, 1, func(m *api.Model) *int { return &m.Sites[1].Starts[0].Args[0] })
	for i := range 3 {
		testEnds(t, "units", 0, maxUnits, func(m *api.Model) *int { return &first(m).Resources[i].Units })
		testEnds(t, "units of a change", 0, maxUnits, func(m *api.Model) *int { return &first(m).Resources[0].Shift[i].Units })
		testEnds(t, "room", 1, maxUnits, func(m *api.Model) *int { return &first(m).Stores[i].Room })
		testEnds(t, "at", 0, maxTime, func(m *api.Model) *int { return &first(m).Starts[i].At })
		testEnds(t, "delay", 1, maxTime, func(m *api.Model) *int { return &m.Links[i].Delay })
	}
	testEnds(t, "units of a change", 0, maxUnits, func(m *api.Model) *int { return &first(m).Resources[2].Shift[0].Units })
	testEnds(t, "cycle", 10, maxTime, func(m *api.Model) *int { return &first(m).Resources[0].Cycle })
	testEnds(t, "cycle", 4, maxTime, func(m *api.Model) *int { return &first(m).Resources[2].Cycle })
	testEnds(t, "time of a change", 0, 4, func(m *api.Model) *int { return &first(m).Resources[2].Shift[0].At })
	for i := range 2 {
		testEnds(t, "length", 1, maxBelt, func(m *api.Model) *int { return &first(m).Belts[i].Length })
		testEnds(t, "step", 1, maxBelt, func(m *api.Model) *int { return &first(m).Belts[i].Step })
		testEnds(t, "total", -maxInt, maxInt, func(m *api.Model) *int { return &first(m).Laws[i].Total })
	}
	testEnds(t, "every", 1, maxTime, func(m *api.Model) *int { return &first(m).Starts[0].Every })
	testEnds(t, "every without until", 0, maxTime, func(m *api.Model) *int { return &first(m).Starts[1].Every })
	testEnds(t, "until", 0, maxTime, func(m *api.Model) *int { return &first(m).Starts[0].Until })
	testEnds(t, "until without every", 0, 0, func(m *api.Model) *int { return &first(m).Starts[1].Until })
}

func TestCoefficients(t *testing.T) {
	for i := range 4 {
		for _, n := range append(someInts(), -500, 500, 999, -999) {
			m := shop()
			first(&m).Laws[1].Terms[i].Coef = n
			want := api.OK
			if n == 0 || n < -maxCoef || n > maxCoef {
				want = api.ErrRange
			}
			testError(t, m, want)
		}
	}
}

// ofType is a model with a parameter, a variable, an argument or a local variable of a type.
func ofType(t api.Type, n int) []api.Model {
	routine := func(r api.Routine) api.Model { return only(api.SiteDecl{Name: "s", Routines: []api.Routine{r}}) }
	m := only(api.SiteDecl{Name: "s"})
	m.Params = []api.Value{value("v", t, n)}
	return []api.Model{
		m, only(api.SiteDecl{Name: "s", Vars: []api.Value{value("v", t, n)}}), routine(api.Routine{Name: "r", Params: []api.Field{field("v", t)}}), routine(api.Routine{Name: "r", Locals: []api.Field{field("v", t)}}),
	}
}

func TestTypesAndPolicies(t *testing.T) {
	for _, n := range someInts() {
		want := api.OK
		if n < 1 || n > 3 {
			want = api.ErrArg
		}
		// Before the type, its range does not matter.
		for _, m := range append(ofType(api.Type(n), 0), ofType(api.Type(n), 1)...) {
			testError(t, m, want)
		}
		if want != api.OK {
			testError(t, ofType(api.Type(n), math.MaxInt)[0], want)
			testError(t, ofType(api.Type(n), math.MinInt)[1], want)
		}
		testError(t, only(api.SiteDecl{Name: "s", Stores: []api.StoreDecl{{Name: "d", Room: 1, Policy: api.Policy(n)}}}), want)
		testError(t, only(api.SiteDecl{Name: "s", Stores: []api.StoreDecl{{Name: "d", Room: 0, Policy: api.Policy(n)}}}), api.ErrRange)
	}
}

func TestSchedules(t *testing.T) {
	changes := func(l ...int) []api.Change {
		var all []api.Change
		for _, at := range l {
			all = append(all, api.Change{At: at, Units: at % 3})
		}
		return all
	}
	for _, c := range []struct {
		l     []api.Change
		cycle int
		want  api.Errno
	}{
		{nil, 0, api.OK},
		{[]api.Change{}, 0, api.OK},
		{nil, 1, api.ErrArg},
		{nil, -1, api.ErrArg},
		{[]api.Change{}, maxTime + 1, api.ErrArg},
		{changes(0), 0, api.ErrRange},
		{changes(0), -1, api.ErrRange},
		{changes(0), 1, api.OK},
		{changes(0), maxTime, api.OK},
		{changes(0), maxTime + 1, api.ErrRange},
		{changes(1), 1, api.ErrRange},
		{changes(maxTime - 1), maxTime, api.OK},
		{changes(maxTime), maxTime, api.ErrRange},
		{changes(-1), 5, api.ErrRange},
		{changes(0, 1), 2, api.OK},
		{changes(0, 0), 2, api.ErrOrder},
		{changes(1, 0), 2, api.ErrOrder},
		{changes(1, 1), 2, api.ErrOrder},
		{changes(0, 2), 2, api.ErrRange},
		{changes(1, 0, 2), 2, api.ErrOrder},
		{changes(1, 2, 0), 2, api.ErrRange},
		{changes(1, 3, 2), 4, api.ErrOrder},
		{changes(1, 3, 3), 4, api.ErrOrder},
		// Each change is compared with the one before, and not with all.
		{changes(5, 7, 6), 9, api.ErrOrder},
		{changes(2, 1), 2, api.ErrRange},
		{changes(1, -1), 2, api.ErrRange},
		{[]api.Change{{At: 1, Units: 1}, {At: 0, Units: -1}}, 2, api.ErrRange},
		{[]api.Change{{At: 1, Units: 1}, {At: 0, Units: 0}}, 2, api.ErrOrder},
		{[]api.Change{{At: 0, Units: 3}, {At: 1, Units: 3}}, 2, api.OK},
		{make([]api.Change, maxChanges), 1, api.ErrOrder},
		{make([]api.Change, maxChanges+1), 0, api.ErrLong},
		{make([]api.Change, maxChanges+1), 1, api.ErrLong},
	} {
		r := api.ResourceDecl{Name: "r", Units: 1, Shift: c.l, Cycle: c.cycle}
		m := only(api.SiteDecl{Name: "s", Resources: []api.ResourceDecl{r}})
		testError(t, m, c.want)
		m.Sites[0].Resources[0].Units = -1
		testError(t, m, api.ErrRange)
	}
}

func TestFailures(t *testing.T) {
	good, bad := always(1), api.Dist{Op: api.DUniform, A: 3, B: 2}
	for _, c := range []struct {
		f    api.Fault
		want api.Errno
	}{
		{api.Fault{}, api.OK},
		{api.Fault{Up: api.Dist{Values: ints(), Weights: ints()}, Down: api.Dist{Values: ints()}}, api.OK},
		{api.Fault{Up: good}, api.ErrArg},
		{api.Fault{Down: good}, api.ErrArg},
		{api.Fault{Up: good, Down: good}, api.ErrArg},
		{api.Fault{Up: bad}, api.ErrArg},
		{api.Fault{Down: api.Dist{Op: -1}}, api.ErrArg},
		{api.Fault{Up: api.Dist{A: 1}}, api.ErrArg},
		{api.Fault{Up: api.Dist{Values: ints(0)}}, api.ErrArg},
		{api.Fault{Down: api.Dist{B: 1}}, api.ErrArg},
		{api.Fault{Down: api.Dist{N: 1}}, api.ErrArg},
		{api.Fault{Down: api.Dist{Weights: ints(0)}}, api.ErrArg},
		{api.Fault{Stream: "z", Up: good, Down: good}, api.OK},
		{api.Fault{Stream: "z0", Up: good, Down: good}, api.OK},
		{api.Fault{Stream: "z"}, api.ErrArg},
		{api.Fault{Stream: "z", Up: good}, api.ErrArg},
		{api.Fault{Stream: "z", Down: good}, api.ErrArg},
		{api.Fault{Stream: "z", Up: bad, Down: good}, api.ErrRange},
		{api.Fault{Stream: "z", Up: good, Down: bad}, api.ErrRange},
		{api.Fault{Stream: "z", Up: bad, Down: api.Dist{}}, api.ErrRange},
		{api.Fault{Stream: "z", Up: api.Dist{}, Down: bad}, api.ErrArg},
		{api.Fault{Stream: "z", Up: api.Dist{Op: api.DTable}, Down: bad}, api.ErrShort},
		{api.Fault{Stream: "none", Up: bad}, api.ErrNone},
		{api.Fault{Stream: "if", Up: good, Down: good}, api.ErrNone},
		{api.Fault{Stream: "v", Up: good, Down: good}, api.ErrNone},
		{api.Fault{Stream: "r", Up: good, Down: good}, api.ErrNone},
		{api.Fault{Stream: "d", Up: good, Down: good}, api.ErrNone},
		{api.Fault{Stream: "b", Up: good, Down: good}, api.ErrNone},
		{api.Fault{Stream: "q", Up: good, Down: good}, api.ErrNone},
		{api.Fault{Stream: "t", Up: good, Down: good}, api.ErrNone},
		{api.Fault{Stream: "l", Up: good, Down: good}, api.ErrNone},
		{api.Fault{Stream: "c", Up: good, Down: good}, api.ErrNone},
		{api.Fault{Stream: "x", Up: good, Down: good}, api.ErrNone},
		{api.Fault{Stream: "s", Up: good, Down: good}, api.ErrNone},
		{api.Fault{Stream: "other", Up: good, Down: good}, api.ErrNone},
	} {
		m := only(small())
		m.Sites = append(m.Sites, api.SiteDecl{Name: "far", Streams: texts("other")})
		m.Sites[0].Streams = texts("z0", "z")
		m.Sites[0].Resources[0].Fault = c.f
		testError(t, m, c.want)
	}
	// The stream is looked up before the streams are checked.
	m := only(api.SiteDecl{Name: "s", Resources: []api.ResourceDecl{{Name: "r", Fault: api.Fault{Stream: "if", Up: good, Down: bad}}}, Streams: texts("if")})
	testError(t, m, api.ErrRange)
	m.Sites[0].Resources[0].Fault.Down = good
	testError(t, m, api.ErrName)
}

// small has one declaration of each kind.
func small() api.SiteDecl {
	return api.SiteDecl{
		Name: "s", Vars: []api.Value{aVar("v")}, Resources: []api.ResourceDecl{aResource("r")}, Stores: []api.StoreDecl{aStore("d")}, Belts: []api.BeltDecl{aBelt("b")}, Queues: texts("q"),
		Streams: texts("z"), Tallies: texts("t"), Levels: texts("l"), Counts: texts("c"), Routines: []api.Routine{{Name: "x"}},
	}
}

// rename gives a declaration of a kind another name.
func rename(s *api.SiteDecl, kind string, index int, name string) {
	switch kind {
	case "var":
		s.Vars[index].Name = name
	case "resource":
		s.Resources[index].Name = name
	case "store":
		s.Stores[index].Name = name
	case "belt":
		s.Belts[index].Name = name
	case "queue":
		s.Queues[index] = name
	case "stream":
		s.Streams[index] = name
	case "tally":
		s.Tallies[index] = name
	case "level":
		s.Levels[index] = name
	case "count":
		s.Counts[index] = name
	case "routine":
		s.Routines[index].Name = name
	}
}

// double has two declarations of each kind.
func double() api.SiteDecl {
	s := small()
	s.Vars, s.Resources, s.Stores, s.Belts = append(s.Vars, aVar("v2")), append(s.Resources, aResource("r2")), append(s.Stores, aStore("d2")), append(s.Belts, aBelt("b2"))
	s.Queues, s.Streams, s.Tallies, s.Levels, s.Counts = append(s.Queues, "q2"), append(s.Streams, "z2"), append(s.Tallies, "t2"), append(s.Levels, "l2"), append(s.Counts, "c2")
	s.Routines = append(s.Routines, api.Routine{Name: "x2"})
	return s
}

func TestNamesOfTwoDeclarations(t *testing.T) {
	testError(t, only(double()), api.OK)
	all := declared(double())
	if len(all) != 20 {
		t.Fatal(all)
	}
	for i, a := range all {
		for _, bad := range texts("", "if", "A", "9", "a b", strings.Repeat("a", 25)) {
			s := double()
			rename(&s, a.kind, a.index, bad)
			testError(t, only(s), api.ErrName)
		}
		for k, b := range all {
			s := double()
			rename(&s, b.kind, b.index, a.name)
			want := api.ErrTwice
			if i == k {
				want = api.OK
			}
			testError(t, only(s), want)
			// The second one of the same name comes before what is wrong with a third one, and after what is wrong before it.
			for j, c := range all {
				if j == i || j == k {
					continue
				}
				s := double()
				rename(&s, b.kind, b.index, a.name)
				rename(&s, c.kind, c.index, "if")
				want := api.ErrName
				if i != k && j > max(i, k) {
					want = api.ErrTwice
				}
				testError(t, only(s), want)
			}
		}
		// Other lists have names of their own.
		s := double()
		s.Name = a.name
		s.Laws = []api.Law{law(a.name, 0, term(1, "created", "x"))}
		s.Routines[0].Params, s.Routines[0].Locals = []api.Field{field(a.name, api.Int)}, []api.Field{field("y", api.Int)}
		s.Routines[1].Locals = []api.Field{field("y", api.Time), field(a.name, api.Time)}
		m := only(s)
		m.Name = a.name
		m.Params = []api.Value{aVar(a.name)}
		m.Sites = append(m.Sites, s)
		m.Sites[1].Name = "other"
		testError(t, m, api.OK)
	}
}

func TestNamesInOtherLists(t *testing.T) {
	for _, bad := range texts("", "if", "A", "a.b", strings.Repeat("a", 25)) {
		for i, change := range []func(m *api.Model){
			func(m *api.Model) { m.Name = bad },
			func(m *api.Model) { m.Params[2].Name = bad },
			func(m *api.Model) { m.Sites[2].Name = bad },
			func(m *api.Model) { first(m).Laws[1].Name = bad },
			func(m *api.Model) { first(m).Routines[0].Params[2].Name = bad },
			func(m *api.Model) { first(m).Routines[2].Locals[0].Name = bad },
		} {
			m := shop()
			change(&m)
			if got := model.Check(m); got != api.ErrName {
				t.Errorf("place %d, name %q: %v", i, bad, got)
			}
		}
	}
	// A law can have the name of each declaration, but not that of another law of its site.
	for _, d := range declared(plant()) {
		m := shop()
		first(&m).Laws[1].Name = d.name
		testError(t, m, api.OK)
		first(&m).Laws[0].Name = d.name
		testError(t, m, api.ErrTwice)
		m = shop()
		first(&m).Routines[2].Params[0].Name = d.name
		want := api.OK
		if d.name == "part" {
			want = api.ErrTwice
		}
		testError(t, m, want)
	}
}

func TestFieldsOfRoutines(t *testing.T) {
	twice := func(l []api.Field, n int) api.Errno {
		r := api.Routine{Name: "x", Params: l[:n], Locals: l[n:]}
		return model.Check(only(api.SiteDecl{Name: "s", Routines: []api.Routine{aRoutine("w"), r, {Name: "y", Params: l[:1], Locals: l[2:3]}}}))
	}
	for n := range maxArgs + 1 {
		for i := range 9 {
			for k := range 9 {
				l := each("a", 9, aField)
				l[i].Name = l[k].Name
				want := api.ErrTwice
				if i == k {
					want = api.OK
				}
				if got := twice(l, n); got != want {
					t.Errorf("%v with %d parameters: %v, not %v", l, n, got, want)
				}
				// Before a name that is there twice, the fields before it are examined.
				l[i].Type = 0
				if got := twice(l, n); i < k && got != api.ErrArg || i == k && got != api.ErrArg || i > k && got != api.ErrTwice {
					t.Errorf("%v with %d parameters: %v", l, n, got)
				}
			}
		}
	}
}

func TestStarts(t *testing.T) {
	for _, c := range []struct {
		d    api.Start
		want api.Errno
	}{
		{start("part", 0, 1, 2, 0), api.OK},
		{start("part", 0, maxInt, maxTime, 1), api.OK},
		{start("part", 0, -maxInt, 0, 0), api.OK},
		{start("part", 0, maxInt+1, 0, 0), api.ErrRange},
		{start("part", 0, 0, maxTime+1, 0), api.ErrRange},
		{start("part", 0, 0, 0, 2), api.ErrRange},
		{start("part", 0, 0, 0, -1), api.ErrRange},
		{start("part", 0), api.ErrForm},
		{start("part", 0, 1, 2), api.ErrForm},
		{start("part", 0, 1, 2, 0, 0), api.ErrForm},
		{start("part", -1, 1, 2), api.ErrForm},
		{start("part", -1, maxInt+1, 2), api.ErrForm},
		{start("idle", 0), api.OK},
		{api.Start{Routine: "idle", Args: ints()}, api.OK},
		{start("idle", 0, 0), api.ErrForm},
		{start("box", 0, maxTime), api.OK},
		{start("box", 0, -1), api.ErrRange},
		{start("none", -1, 0, 0, 0), api.ErrNone},
		{start("", 0), api.ErrNone},
		{start("if", 0), api.ErrNone},
		{start("plant", 0), api.ErrNone},
		{start("shop", 0), api.ErrNone},
		{start("parts", 0), api.ErrNone},
		{start("lost", 0), api.ErrNone},
		{start("hall", 0, 1), api.ErrNone},
		{start("k", 0), api.ErrNone},
		{api.Start{Routine: "idle", At: maxTime, Every: maxTime, Until: maxTime}, api.OK},
		{api.Start{Routine: "idle", At: 9, Every: 1, Until: 0}, api.OK},
		{api.Start{Routine: "idle", At: 9, Every: 1, Until: 8}, api.OK},
		{api.Start{Routine: "idle", Every: 1}, api.OK},
		{api.Start{Routine: "idle", Until: 1}, api.ErrRange},
		{api.Start{Routine: "idle", Until: maxTime}, api.ErrRange},
		{api.Start{Routine: "idle", Until: -1}, api.ErrRange},
		{api.Start{Routine: "idle", Every: -1, Until: 5}, api.ErrRange},
		{api.Start{Routine: "idle", Every: -1}, api.ErrRange},
		{api.Start{Routine: "idle", At: -1}, api.ErrRange},
		{api.Start{Routine: "idle", Every: 1, Until: -1}, api.ErrRange},
		{api.Start{Routine: "idle", Every: 1, Until: maxTime + 1}, api.ErrRange},
	} {
		for i := range 4 {
			m := shop()
			first(&m).Starts = slices.Insert(first(&m).Starts, i, c.d)
			testError(t, m, c.want)
		}
	}
}

func TestTermsOfEachWordAndKind(t *testing.T) {
	for _, what := range append(someTexts(), "free", "size", "waiting", "create", "count", "routine", "store", "count ") {
		for _, d := range append(declared(double()), decl{name: "none"}, decl{name: ""}, decl{name: "s"}, decl{name: "if"}, decl{name: "a"}) {
			kind, known := subjects()[what]
			want := api.OK
			switch {
			case !known:
				want = api.ErrArg
			case d.kind != kind:
				want = api.ErrNone
			}
			s := double()
			s.Laws = []api.Law{law("a", 0, term(1, "left", "d"), term(-1, what, d.name))}
			testError(t, only(s), want)
			// A coefficient that is wrong comes after both, and the total after all terms.
			s.Laws[0].Terms[1].Coef, s.Laws[0].Total = 0, maxInt+1
			if want == api.OK {
				want = api.ErrRange
			}
			testError(t, only(s), want)
		}
	}
}

func TestLawsOfEachSize(t *testing.T) {
	s := small()
	for n := range 12 {
		want := api.OK
		switch {
		case n == 0:
			want = api.ErrShort
		case n > maxTerms:
			want = api.ErrLong
		}
		s.Laws = []api.Law{aLawOf(n)}
		testError(t, only(s), want)
		s.Laws = []api.Law{aLawOf(1), {Name: "b", Terms: make([]api.Term, n), Total: maxInt + 1}}
		if want == api.OK {
			want = api.ErrArg
		}
		testError(t, only(s), want)
	}
	// Equal terms are accepted, also where their sum is 0.
	s.Laws = []api.Law{law("a", 1, term(1, "left", "d"), term(1, "left", "d"), term(-1, "left", "d"))}
	testError(t, only(s), api.OK)
}

// aLawOf is a law with n equal terms.
func aLawOf(n int) api.Law {
	return law("a", 0, slices.Repeat([]api.Term{term(2, "stored", "d")}, n)...)
}

func TestLinks(t *testing.T) {
	a, b, c := "plant", "yard", "dock"
	for _, row := range []struct {
		l    []api.Link
		want api.Errno
	}{
		{nil, api.OK},
		{[]api.Link{}, api.OK},
		{[]api.Link{link(a, b, 1), link(b, a, 1)}, api.OK},
		{[]api.Link{link(a, b, 1), link(b, c, 1), link(c, a, 1), link(a, c, 1), link(c, b, 1), link(b, a, 1)}, api.OK},
		{[]api.Link{link(a, b, 1), link(a, b, 2)}, api.ErrTwice},
		{[]api.Link{link(a, b, 1), link(b, a, 1), link(c, a, 1), link(b, a, 1)}, api.ErrTwice},
		{[]api.Link{link(a, b, 1), link(a, b, 0)}, api.ErrRange},
		{[]api.Link{link(a, b, 1), link(a, b, 1), link(a, b, 0)}, api.ErrTwice},
		{[]api.Link{link(a, a, 1)}, api.ErrArg},
		{[]api.Link{link(a, a, 0)}, api.ErrArg},
		{[]api.Link{link("x", "x", 0)}, api.ErrNone},
		{[]api.Link{link("", "", 1)}, api.ErrNone},
		{[]api.Link{link(a, "", 1)}, api.ErrNone},
		{[]api.Link{link("", a, 1)}, api.ErrNone},
		{[]api.Link{link(a, "x", 0)}, api.ErrNone},
		{[]api.Link{link("x", b, 0)}, api.ErrNone},
		{[]api.Link{link("mill", b, 1)}, api.ErrNone},
		{[]api.Link{link(a, "shop", 1)}, api.ErrNone},
		{[]api.Link{link(a, b, 0)}, api.ErrRange},
		{[]api.Link{link(a, b, -1)}, api.ErrRange},
		{[]api.Link{link(a, b, maxTime)}, api.OK},
		{[]api.Link{link(a, b, maxTime+1)}, api.ErrRange},
		{[]api.Link{link(a, b, 0), link(a, a, 1)}, api.ErrRange},
		{[]api.Link{link(a, a, 1), link(a, "x", 1)}, api.ErrArg},
		{[]api.Link{link(a, b, 1), link(a, c, 1), link(b, c, 1), link(c, b, 1)}, api.OK},
	} {
		m := shop()
		m.Links = row.l
		testError(t, m, row.want)
	}
	// Both ends are compared, and not what their names make together.
	m := api.Model{Name: "m", Sites: []api.SiteDecl{{Name: "a"}, {Name: "aa"}, {Name: "aaa"}, {Name: "aaaa"}}, Links: []api.Link{link("a", "aaa", 1), link("aaa", "a", 1), link("aa", "aaa", 1), link("a", "aaaa", 1)}}
	testError(t, m, api.OK)
}

// P11.2

func TestExamplesOfSiteLinkAndRoutine(t *testing.T) {
	m := api.Model{
		Sites: []api.SiteDecl{{Name: "a"}, {Name: "b"}, {Name: "a"}, {Name: ""}, {Name: "if"}, {Name: ""}},
		Links: []api.Link{link("a", "b", 4), link("b", "a", 5), link("a", "b", 6), link("x", "y", 7), link("a", "a", 8), link("", "", 9), link("b", "c", 0), link("b", "c", 1), link("c", "b", -3)},
	}
	for name, want := range map[string]int{"a": 0, "b": 1, "": 3, "if": 4, "c": -1, "x": -1, "A": -1, "a ": -1} {
		if got := model.Site(m, name); got != want {
			t.Errorf("Site of %q is %d, not %d", name, got, want)
		}
	}
	for ends, want := range map[[2]string]int{{"a", "b"}: 4, {"b", "a"}: 5, {"x", "y"}: 7, {"a", "a"}: 8, {"", ""}: 9, {"b", "c"}: 0, {"c", "b"}: -3} {
		if got, found := model.Link(m, ends[0], ends[1]); got != want || !found {
			t.Errorf("Link of %q is %d, %v, not %d", ends, got, found, want)
		}
	}
	for _, ends := range [][2]string{{"y", "x"}, {"b", "b"}, {"a", "x"}, {"x", "b"}, {"a", ""}, {"", "a"}, {"ab", ""}, {"b", "d"}} {
		if got, found := model.Link(m, ends[0], ends[1]); got != 0 || found {
			t.Errorf("Link of %q is %d, %v", ends, got, found)
		}
	}
	s := api.SiteDecl{Vars: []api.Value{aVar("v")}, Routines: []api.Routine{{Name: "b"}, {Name: "a"}, {Name: "b"}, {Name: "if"}, {Name: ""}}}
	for name, want := range map[string]int{"a": 1, "b": 0, "if": 3, "": 4, "v": -1, "c": -1} {
		if got := model.Routine(s, name); got != want {
			t.Errorf("Routine of %q is %d, not %d", name, got, want)
		}
	}
	if model.Site(api.Model{}, "") != -1 || model.Routine(api.SiteDecl{}, "") != -1 {
		t.Error("something is found in nothing")
	}
	if n, found := model.Link(api.Model{}, "", ""); n != 0 || found {
		t.Error(n, found)
	}
}

// testFinds compares all that finds parts of a model with the definitions.
func testFinds(t *testing.T, m api.Model, l []string) {
	t.Helper()
	for _, a := range l {
		if got, want := model.Site(m, a), slices.IndexFunc(m.Sites, func(s api.SiteDecl) bool { return s.Name == a }); got != want {
			t.Fatalf("Site(%s, %q) = %d, not %d", brief(m), a, got, want)
		}
		for _, b := range l {
			delay, found := 0, false
			for _, x := range slices.Backward(m.Links) {
				if x.From == a && x.To == b {
					delay, found = x.Delay, true
				}
			}
			if got, ok := model.Link(m, a, b); got != delay || ok != found {
				t.Fatalf("Link(%s, %q, %q) = %d, %v, not %d, %v", brief(m), a, b, got, ok, delay, found)
			}
		}
		for _, s := range m.Sites {
			routine := -1
			for i, r := range slices.Backward(s.Routines) {
				if r.Name == a {
					routine = i
				}
			}
			if got := model.Routine(s, a); got != routine {
				t.Fatalf("Routine(%s, %q) = %d, not %d", brief(s), a, got, routine)
			}
			want := find(s, a)
			if kind, index := model.Kind(s, a), model.Index(s, a); kind != want.kind || index != want.index {
				t.Fatalf("%q is %q %d in %s, not %q %d", a, kind, index, brief(s), want.kind, want.index)
			}
		}
	}
}

func TestFindsInModelsThatAreNotValid(t *testing.T) {
	r := rand.New(rand.NewPCG(11, 3))
	few := texts("", "a", "b", "if", "plant", "yard", "mill", "part", "lane")
	for range 200 {
		m := damaged(r, shop(), 3)
		for _, v := range parts(reflect.ValueOf(&m).Elem()) {
			// Many equal names, in all kinds.
			if v.Kind() == reflect.String && r.IntN(2) == 0 {
				v.SetString(pick(r, few))
			}
		}
		testFinds(t, m, few)
	}
	testFinds(t, shop(), someTexts())
	testFinds(t, full(), texts("s0", "s15", "s16", "r31", "x15", "x16", "c32", "p0", "a0", "l0"))
}

// P11.3

func TestKindAndIndexOfEachDeclaration(t *testing.T) {
	for _, m := range []api.Model{shop(), full(), only(small()), only(double())} {
		testError(t, m, api.OK)
		for _, s := range m.Sites {
			all := declared(s)
			for _, d := range all {
				if kind, index := model.Kind(s, d.name), model.Index(s, d.name); kind != d.kind || index != d.index {
					t.Errorf("%q is %q %d, not %q %d", d.name, kind, index, d.kind, d.index)
				}
			}
			for _, name := range texts("", "if", "none", "parts", "k", "fast", "var", "v32", "x16", "s") {
				if kind, index := model.Kind(s, name), model.Index(s, name); kind != "" || index != -1 {
					t.Errorf("%q is %q %d", name, kind, index)
				}
			}
		}
	}
}

func TestKindAndIndexInAcceptedModels(t *testing.T) {
	r := rand.New(rand.NewPCG(11, 4))
	accepted := 0
	for range 2500 {
		m := damaged(r, shop(), 1+r.IntN(3))
		if model.Check(m) != api.OK {
			continue
		}
		accepted++
		for _, s := range m.Sites {
			all := declared(s)
			for _, d := range all {
				found := decl{model.Kind(s, d.name), model.Index(s, d.name), d.name}
				same := func(x decl) bool { return x.name == d.name }
				if found != d || slices.IndexFunc(all, same) != slices.Index(all, d) || slices.ContainsFunc(all[slices.Index(all, d)+1:], same) {
					t.Fatalf("%v is found in place of %v in %s", found, d, brief(s))
				}
			}
		}
	}
	if accepted < 200 {
		t.Errorf("only %d models were accepted", accepted)
	}
}

func TestFirstOfSeveralDeclarations(t *testing.T) {
	all := declared(double())
	for i, a := range all {
		for k, b := range all {
			for j, c := range all {
				s := double()
				rename(&s, a.kind, a.index, "same")
				rename(&s, b.kind, b.index, "same")
				rename(&s, c.kind, c.index, "same")
				want := all[min(i, j, k)]
				if kind, index := model.Kind(s, "same"), model.Index(s, "same"); kind != want.kind || index != want.index {
					t.Fatalf("the first one of %v, %v and %v is %q %d", a, b, c, kind, index)
				}
			}
		}
		// Also a name that is not valid.
		for _, name := range texts("", "if", "\xff") {
			s := double()
			rename(&s, a.kind, a.index, name)
			if kind, index := model.Kind(s, name), model.Index(s, name); kind != a.kind || index != a.index {
				t.Errorf("%q is %q %d, not %v", name, kind, index, a)
			}
		}
	}
	if model.Kind(api.SiteDecl{}, "") != "" || model.Index(api.SiteDecl{}, "") != -1 {
		t.Error("something is found in nothing")
	}
	// The name of a site, a law or a field is no declaration.
	s := api.SiteDecl{Name: "a", Laws: []api.Law{{Name: "b"}}, Routines: []api.Routine{{Name: "r", Params: []api.Field{field("c", api.Int)}, Locals: []api.Field{field("d", api.Int)}}}, Starts: []api.Start{{Routine: "e"}}}
	for _, name := range texts("a", "b", "c", "d", "e") {
		if model.Kind(s, name) != "" || model.Index(s, name) != -1 {
			t.Errorf("%q is found", name)
		}
	}
}

// P11.4

func TestExamplesOfSame(t *testing.T) {
	nilLists, emptyLists := api.SiteDecl{Name: "a", Resources: make([]api.ResourceDecl, 1), Routines: make([]api.Routine, 1), Starts: make([]api.Start, 1), Laws: make([]api.Law, 1)}, api.SiteDecl{}
	emptyLists = copied(nilLists)
	for _, c := range []struct {
		a, b api.Model
		want bool
	}{
		{api.Model{}, api.Model{}, true},
		{api.Model{}, copied(api.Model{}), true},
		{api.Model{}, api.Model{Name: "a"}, false},
		{api.Model{}, api.Model{Params: make([]api.Value, 1)}, false},
		{api.Model{}, api.Model{Sites: make([]api.SiteDecl, 1)}, false},
		{api.Model{}, api.Model{Links: make([]api.Link, 1)}, false},
		{only(nilLists), only(emptyLists), true},
		{shop(), shop(), true},
		{shop(), copied(shop()), true},
		{full(), full(), true},
		{shop(), full(), false},
		{only(small()), only(double()), false},
	} {
		if got := model.Same(c.a, c.b); got != c.want {
			t.Errorf("Same(%s, %s) = %v", brief(c.a), brief(c.b), got)
		}
		if got := model.Same(c.b, c.a); got != c.want {
			t.Errorf("Same(%s, %s) = %v", brief(c.b), brief(c.a), got)
		}
	}
}

// whole is a model, not an accepted one, in which no part is zero and no list empty.
func whole() api.Model {
	e := api.Expr{Op: 9, Name: "e", N: 1, Kids: []api.Expr{{Op: 1, Name: "f", N: 2, Kids: []api.Expr{number(3)}}, number(4)}}
	d := api.Dist{Op: 3, A: 1, B: 2, N: 3, Values: ints(4, 5), Weights: ints(6, 7)}
	s := api.Stmt{Op: 5, Name: "n", Of: "o", E: e, F: e, Args: []api.Expr{e}, Dist: d, Flag: true, Body: []api.Stmt{ride("a"), end()}, Else: []api.Stmt{end()}}
	return api.Model{Name: "w", Params: []api.Value{aVar("p"), aVar("q")}, Sites: []api.SiteDecl{{
		Name: "s", Vars: []api.Value{aVar("v")}, Resources: []api.ResourceDecl{{Name: "r", Units: 1, Shift: []api.Change{{At: 1, Units: 2}, {At: 3, Units: 4}}, Cycle: 5, Fault: api.Fault{Stream: "z", Up: d, Down: d}}},
		Stores: []api.StoreDecl{aStore("d")}, Belts: []api.BeltDecl{aBelt("b")}, Queues: texts("q", "w"), Streams: texts("z"), Tallies: texts("t"), Levels: texts("l"), Counts: texts("c"),
		Routines: []api.Routine{{Name: "x", Params: []api.Field{aField("a")}, Locals: []api.Field{aField("b"), aField("c")}, Body: []api.Stmt{s, end()}}},
		Starts:   []api.Start{{Routine: "x", Args: ints(1, 2), At: 3, Every: 4, Until: 5}}, Laws: []api.Law{law("a", 9, term(1, "ended", "x"), term(2, "left", "d"))},
	}, small()}, Links: []api.Link{link("s", "s", 7), link("a", "b", 8)}}
}

func TestSameAfterEachChange(t *testing.T) {
	for _, m := range []api.Model{shop(), whole(), only(double())} {
		x, changes := copied(m), 0
		for _, v := range parts(reflect.ValueOf(&x).Elem()) {
			before := copyOf(v).Interface()
			change(v, func() {
				want := reflect.DeepEqual(copyOf(v).Interface(), before)
				if model.Same(m, x) != want || model.Same(x, m) != want {
					t.Fatalf("Same(%s, %s) is not %v", brief(m), brief(x), want)
				}
				changes++
			})
		}
		if !model.Same(m, x) || !model.Same(x, m) || changes < 2000 {
			t.Fatalf("%s is not equal to itself after %d changes", brief(m), changes)
		}
	}
}

func TestEquivalence(t *testing.T) {
	r := rand.New(rand.NewPCG(11, 5))
	all := []api.Model{{}, copied(api.Model{}), shop(), copied(shop()), whole(), copied(whole())}
	for range 60 {
		// Few different models, so that many are equal.
		m := only(api.SiteDecl{Name: "s", Queues: named("q", r.IntN(2)), Laws: []api.Law{{Total: r.IntN(2)}}, Routines: make([]api.Routine, r.IntN(2))})
		if r.IntN(2) == 0 {
			m = copied(m)
		}
		all = append(all, m)
	}
	for range 30 {
		all = append(all, damaged(r, shop(), r.IntN(2)))
	}
	for _, a := range all {
		for _, b := range all {
			same := model.Same(a, b)
			if want := equal(a, b); same != want {
				t.Fatalf("Same(%s, %s) = %v", brief(a), brief(b), same)
			}
			if same && model.Check(a) != model.Check(b) {
				t.Fatalf("Check distinguishes %s and %s", brief(a), brief(b))
			}
			if model.Same(b, a) != same {
				t.Fatalf("Same of %s and %s depends on their order", brief(a), brief(b))
			}
		}
	}
}

func TestNilAndEmptyListsSideBySide(t *testing.T) {
	// Each list of the model, one after the other, is nil where the others are empty, and the other way round.
	none := only(api.SiteDecl{Name: "s", Resources: []api.ResourceDecl{aResource("r")}, Routines: []api.Routine{{Name: "x", Body: []api.Stmt{end()}}}, Starts: []api.Start{start("x", 0)}, Laws: []api.Law{law("a", 0, term(1, "ended", "x"))}})
	filled := copied(none)
	lists := 0
	for _, v := range parts(reflect.ValueOf(&filled).Elem()) {
		if v.Kind() != reflect.Slice || v.Len() > 0 {
			continue
		}
		lists++
		empty := reflect.ValueOf(v.Interface())
		v.Set(reflect.Zero(v.Type()))
		if !model.Same(none, filled) || !model.Same(filled, none) {
			t.Errorf("%s is not equal to %s", brief(none), brief(filled))
		}
		testError(t, filled, api.OK)
		v.Set(empty)
		if !model.Same(none, filled) || !model.Same(filled, none) {
			t.Errorf("%s is not equal to %s", brief(none), brief(filled))
		}
		testError(t, filled, api.OK)
	}
	if lists < 20 {
		t.Errorf("only %d lists were tried", lists)
	}
}

// P11.5

// testWithoutLast takes the last site, links and laws from an accepted model.
func testWithoutLast(t *testing.T, m api.Model) {
	t.Helper()
	if model.Check(m) != api.OK {
		t.Fatalf("%s is not accepted", brief(m))
	}
	x, last := m, m.Sites[len(m.Sites)-1].Name
	x.Sites = m.Sites[:len(m.Sites)-1]
	want := api.OK
	if slices.ContainsFunc(m.Links, func(l api.Link) bool { return l.From == last || l.To == last }) {
		want = api.ErrNone
	}
	if len(x.Sites) == 0 {
		want = api.ErrShort
	}
	testError(t, x, want)
	for n := range m.Links {
		x = m
		x.Links = m.Links[:n]
		testError(t, x, api.OK)
	}
	for i, s := range m.Sites {
		x = m
		x.Sites = slices.Clone(m.Sites)
		x.Sites[i].Laws = s.Laws[:max(len(s.Laws)-1, 0)]
		testError(t, x, api.OK)
		x.Sites[i].Laws = s.Laws[:len(s.Laws)/2]
		testError(t, x, api.OK)
	}
}

func TestWithoutTheLastPart(t *testing.T) {
	r := rand.New(rand.NewPCG(11, 6))
	testWithoutLast(t, shop())
	testWithoutLast(t, full())
	testWithoutLast(t, only(small()))
	m := shop()
	m.Links = m.Links[:2]
	testWithoutLast(t, m)
	m.Sites = m.Sites[:2]
	testWithoutLast(t, m)
	m.Links = m.Links[1:]
	testWithoutLast(t, m)
	m.Links = nil
	testWithoutLast(t, m)
	// The statements of other sites can send to a site that is no longer there: typing examines that.
	first(&m).Routines[0].Body = []api.Stmt{{Op: api.SSend, Name: "hall", Of: "yard", E: number(1)}}
	testWithoutLast(t, m)
	accepted := 0
	for range 2000 {
		m := damaged(r, shop(), 1+r.IntN(3))
		m.Sites, m.Links = m.Sites[:min(1+r.IntN(3), len(m.Sites))], m.Links[:min(r.IntN(4), len(m.Links))]
		if model.Check(m) == api.OK {
			accepted++
			testWithoutLast(t, m)
		}
	}
	if accepted < 100 {
		t.Errorf("only %d models were accepted", accepted)
	}
}

// R1 and R4

func TestNothingIsModifiedOrKept(t *testing.T) {
	r := rand.New(rand.NewPCG(11, 7))
	for range 300 {
		m := damaged(r, shop(), r.IntN(4))
		before := copied(m)
		errno := model.Check(m)
		testFinds(t, m, texts("plant", "yard", "mill", "part", ""))
		if !model.Same(m, before) || !equal(m, before) {
			t.Fatalf("%s was modified", brief(before))
		}
		// Another model in between does not matter.
		model.Check(shop())
		if model.Check(m) != errno {
			t.Fatalf("something of %s was kept", brief(m))
		}
	}
}

func TestMemoryBehindLists(t *testing.T) {
	// What lies behind the lists in the same memory is no part of them, and stays as it is.
	m := shop()
	fields := append(each("y", maxArgs, aField), field("if", 0), field("if", 0))
	r := &first(&m).Routines[1]
	r.Params, r.Locals = fields[:0], fields[2:maxArgs]
	testError(t, m, api.OK)
	sites := append(slices.Clone(m.Sites), api.SiteDecl{}, api.SiteDecl{})
	links := append(slices.Clone(m.Links), link("a", "a", 0), link("a", "a", 0))
	m.Sites, m.Links = sites[:3], links[:3]
	testError(t, m, api.OK)
	if !slices.Equal(fields, append(each("y", maxArgs, aField), field("if", 0), field("if", 0))) || sites[3].Name != "" || links[3] != link("a", "a", 0) {
		t.Error("the memory behind a list was modified")
	}
	if model.Site(m, "") != -1 {
		t.Error("a site behind the list was found")
	}
	if _, found := model.Link(m, "a", "a"); found {
		t.Error("a link behind the list was found")
	}
}

func TestLargeModels(t *testing.T) {
	const many = 1 << 17
	m := shop()
	for _, l := range []api.Model{
		{Name: "m", Params: make([]api.Value, many)}, {Name: "m", Sites: make([]api.SiteDecl, many)}, {Name: "m", Sites: m.Sites, Links: make([]api.Link, many)},
		only(api.SiteDecl{Name: "s", Vars: make([]api.Value, many)}), only(api.SiteDecl{Name: "s", Resources: make([]api.ResourceDecl, many)}), only(api.SiteDecl{Name: "s", Counts: make([]string, many)}),
		only(api.SiteDecl{Name: "s", Routines: make([]api.Routine, many)}), only(api.SiteDecl{Name: "s", Starts: make([]api.Start, many)}), only(api.SiteDecl{Name: "s", Laws: make([]api.Law, many)}),
		only(api.SiteDecl{Name: "s", Routines: []api.Routine{{Name: "r", Locals: make([]api.Field, many)}}}), only(api.SiteDecl{Name: "s", Routines: []api.Routine{{Name: "r", Body: make([]api.Stmt, many)}}}),
	} {
		testError(t, l, api.ErrLong)
		if !model.Same(l, l) || model.Same(l, m) || model.Site(l, "none") != -1 {
			t.Errorf("%s is not compared well", brief(l))
		}
	}
	s := api.SiteDecl{Streams: append(make([]string, many), "z"), Routines: append(make([]api.Routine, many), api.Routine{Name: "r"})}
	if model.Index(s, "z") != many || model.Kind(s, "z") != "stream" || model.Routine(s, "r") != many || model.Index(s, "r") != many {
		t.Error("the last one of many is not found")
	}
}
