package parse_test

import (
	"testing"

	"simulator/api"
	"simulator/expr"
	"simulator/model"
	"simulator/parse"
	"simulator/stmt"
)

func of(op api.ExprOp, kids ...api.Expr) api.Expr { return api.Expr{Op: op, Kids: kids} }
func word(s string) api.Expr                      { return api.Expr{Op: api.XName, Name: s} }
func number(n int) api.Expr                       { return api.Expr{Op: api.XInt, N: n} }
func truth(n int) api.Expr                        { return api.Expr{Op: api.XBool, N: n} }
func named(op api.ExprOp, s string) api.Expr      { return api.Expr{Op: op, Name: s} }
func neg(e api.Expr) api.Expr                     { return of(api.XNeg, e) }
func not(e api.Expr) api.Expr                     { return of(api.XNot, e) }
func always(n int) api.Dist                       { return api.Dist{Op: api.DConst, A: n} }

// exprForms has texts of expressions with their meanings (P12.1).
func exprForms() map[string]api.Expr {
	a, b, c, d := word("a"), word("b"), word("c"), word("d")
	return map[string]api.Expr{
		"a": a, "0": number(0), "7": number(7), "1000000000000": number(maxInt), "true": truth(1), "false": truth(0), "now": of(api.XNow),
		"dur(a)": of(api.XDur, a), "ticks(a)": of(api.XTicks, a), "min(a, b)": of(api.XMin, a, b), "max(a, b)": of(api.XMax, a, b),
		"free(a)": named(api.XFree, "a"), "size(a)": named(api.XSize, "a"), "waiting(a)": named(api.XWaiting, "a"),
		"(a)": a, "((a))": a, "(7)": number(7), "((7))": number(7), "(now)": of(api.XNow),
		"or1": word("or1"), "nota": word("nota"), "now_": word("now_"), "trues": word("trues"), "duration": word("duration"), "min1": word("min1"), "created": word("created"),
		// Constants and minus signs.
		"(-5)": number(-5), "((-5))": number(-5), "(((-5)))": number(-5), "(- 5)": number(-5), "-5": neg(number(5)), "- 5": neg(number(5)), "-(5)": neg(number(5)), "(-(5))": neg(number(5)), "((-(5)))": neg(number(5)),
		"-(-5)": neg(number(-5)), "(-(-5))": neg(number(-5)), "- -5": neg(neg(number(5))), "--5": neg(neg(number(5))), "(--5)": neg(neg(number(5))), "(-0)": number(0), "-0": neg(number(0)),
		"(-x)": neg(word("x")), "(-now)": neg(of(api.XNow)), "(-true)": neg(truth(1)), "(-5 + 1)": of(api.XAdd, neg(number(5)), number(1)), "((-5) + 1)": of(api.XAdd, number(-5), number(1)), "(1 + (-5))": of(api.XAdd, number(1), number(-5)), "(1 - 5)": of(api.XSub, number(1), number(5)),
		"(-5) * (-6)": of(api.XMul, number(-5), number(-6)), "-5 * 6": of(api.XMul, neg(number(5)), number(6)), "(-5 * 6)": of(api.XMul, neg(number(5)), number(6)), "a - (-5)": of(api.XSub, a, number(-5)), "a - -5": of(api.XSub, a, neg(number(5))), "a -5": of(api.XSub, a, number(5)),
		"dur(-5)": of(api.XDur, neg(number(5))), "dur((-5))": of(api.XDur, number(-5)), "ticks(-5)": of(api.XTicks, neg(number(5))), "min(-5, -6)": of(api.XMin, neg(number(5)), neg(number(6))), "min((-5), (-6))": of(api.XMin, number(-5), number(-6)), "(dur(-5))": of(api.XDur, neg(number(5))), "dur(-a)": of(api.XDur, neg(a)),
		"(-1000000000000)": number(-maxInt), "not (-5)": not(number(-5)), "(not 5)": not(number(5)), "(not -5)": not(neg(number(5))), "(5)": number(5), "(-5) - 5": of(api.XSub, number(-5), number(5)),
		// Each operator alone.
		"a or b": of(api.XOr, a, b), "a and b": of(api.XAnd, a, b), "not a": not(a), "a = b": of(api.XEq, a, b), "a != b": of(api.XNe, a, b), "a < b": of(api.XLt, a, b), "a <= b": of(api.XLe, a, b), "a > b": of(api.XLt, b, a), "a >= b": of(api.XLe, b, a),
		"a + b": of(api.XAdd, a, b), "a - b": of(api.XSub, a, b), "a * b": of(api.XMul, a, b), "a / b": of(api.XDiv, a, b), "a % b": of(api.XMod, a, b), "-a": neg(a), "- -a": neg(neg(a)), "not not a": not(not(a)), "not not not a": not(not(not(a))),
		// Those of a line from the left.
		"a or b or c": of(api.XOr, of(api.XOr, a, b), c), "a or (b or c)": of(api.XOr, a, of(api.XOr, b, c)), "a and b and c": of(api.XAnd, of(api.XAnd, a, b), c), "a and (b and c)": of(api.XAnd, a, of(api.XAnd, b, c)),
		"a - b - c": of(api.XSub, of(api.XSub, a, b), c), "a - (b - c)": of(api.XSub, a, of(api.XSub, b, c)), "a - b + c": of(api.XAdd, of(api.XSub, a, b), c), "a + b - c - d": of(api.XSub, of(api.XSub, of(api.XAdd, a, b), c), d),
		"a / b / c": of(api.XDiv, of(api.XDiv, a, b), c), "a / (b / c)": of(api.XDiv, a, of(api.XDiv, b, c)), "a * b / c % d": of(api.XMod, of(api.XDiv, of(api.XMul, a, b), c), d), "a % b * c": of(api.XMul, of(api.XMod, a, b), c),
		// Those of two lines.
		"a or b and c": of(api.XOr, a, of(api.XAnd, b, c)), "a and b or c": of(api.XOr, of(api.XAnd, a, b), c), "(a or b) and c": of(api.XAnd, of(api.XOr, a, b), c),
		"not a and b": of(api.XAnd, not(a), b), "a and not b": of(api.XAnd, a, not(b)), "not (a and b)": not(of(api.XAnd, a, b)), "not a or not b": of(api.XOr, not(a), not(b)),
		"not a = b": not(of(api.XEq, a, b)), "(not a) = b": of(api.XEq, not(a), b), "a = (not b)": of(api.XEq, a, not(b)), "(a < b) < c": of(api.XLt, of(api.XLt, a, b), c), "a > (b > c)": of(api.XLt, of(api.XLt, c, b), a),
		"a < b + c": of(api.XLt, a, of(api.XAdd, b, c)), "a + b < c": of(api.XLt, of(api.XAdd, a, b), c), "a + (b < c)": of(api.XAdd, a, of(api.XLt, b, c)), "a - b > c * d": of(api.XLt, of(api.XMul, c, d), of(api.XSub, a, b)), "a + 1 >= b - 1": of(api.XLe, of(api.XSub, b, number(1)), of(api.XAdd, a, number(1))),
		"a + b * c": of(api.XAdd, a, of(api.XMul, b, c)), "a * b + c": of(api.XAdd, of(api.XMul, a, b), c), "(a + b) * c": of(api.XMul, of(api.XAdd, a, b), c), "a * (b + c)": of(api.XMul, a, of(api.XAdd, b, c)),
		"-a * b": of(api.XMul, neg(a), b), "- a * b": of(api.XMul, neg(a), b), "a * -b": of(api.XMul, a, neg(b)), "-(a * b)": neg(of(api.XMul, a, b)), "-a + b": of(api.XAdd, neg(a), b), "-(a + b)": neg(of(api.XAdd, a, b)), "-a % -b": of(api.XMod, neg(a), neg(b)),
		"a = b and c != d": of(api.XAnd, of(api.XEq, a, b), of(api.XNe, c, d)), "1 - 2 - x > -3": of(api.XLt, neg(number(3)), of(api.XSub, of(api.XSub, number(1), number(2)), word("x"))), "not a < b or c": of(api.XOr, not(of(api.XLt, a, b)), c),
		"min(a or b, not c)": of(api.XMin, of(api.XOr, a, b), not(c)), "max(min(a, b), dur(c))": of(api.XMax, of(api.XMin, a, b), of(api.XDur, c)), "dur(a) + ticks(b)": of(api.XAdd, of(api.XDur, a), of(api.XTicks, b)), "-min(a, b) * c": of(api.XMul, neg(of(api.XMin, a, b)), c), "free(a)-size(b)%waiting(c)": of(api.XSub, named(api.XFree, "a"), of(api.XMod, named(api.XSize, "b"), named(api.XWaiting, "c"))),
	}
}

// stmtForms has texts of statements with their meanings (P12.1).
func stmtForms() map[string][]api.Stmt {
	a, x := word("a"), word("x")
	two := api.Expr{Op: api.XDur, Kids: []api.Expr{number(2)}}
	stop, ride := api.Stmt{Op: api.SEnd}, api.Stmt{Op: api.SRide, Name: "b"}
	draw := func(d api.Dist) []api.Stmt { return []api.Stmt{{Op: api.SDraw, Name: "x", Of: "s", Dist: d}} }
	choice := func(body, orElse []api.Stmt) []api.Stmt {
		return []api.Stmt{{Op: api.SIf, E: a, Body: body, Else: orElse}}
	}
	loop := func(body ...api.Stmt) []api.Stmt { return []api.Stmt{{Op: api.SWhile, E: a, Body: body}} }
	return map[string][]api.Stmt{
		"":                                               nil,
		"# nothing\n\n":                                  nil,
		"set x = a":                                      {{Op: api.SSet, Name: "x", E: a}},
		"set x = a = 1":                                  {{Op: api.SSet, Name: "x", E: of(api.XEq, a, number(1))}},
		"set end_ = -5":                                  {{Op: api.SSet, Name: "end_", E: neg(number(5))}},
		"draw x from s const 7":                          draw(always(7)),
		"draw x from s uniform 1 3":                      draw(api.Dist{Op: api.DUniform, A: 1, B: 3}),
		"draw x from s table 4:2":                        draw(api.Dist{Op: api.DTable, Values: []int{4}, Weights: []int{2}}),
		"draw x from s table 4:2 3:1":                    draw(api.Dist{Op: api.DTable, Values: []int{4, 3}, Weights: []int{2, 1}}),
		"draw x from s table 4:2 3 : 1 4:9":              draw(api.Dist{Op: api.DTable, Values: []int{4, 3, 4}, Weights: []int{2, 1, 9}}),
		"draw x from s sum 3 1 2":                        draw(api.Dist{Op: api.DSum, N: 3, A: 1, B: 2}),
		"draw x from s geom 2 5":                         draw(api.Dist{Op: api.DGeom, A: 2, B: 5}),
		"if a\nend":                                      choice(nil, nil),
		"if a\nstop\nend":                                choice([]api.Stmt{stop}, nil),
		"if a\nstop\nride b\nend\nstop":                  append(choice([]api.Stmt{stop, ride}, nil), stop),
		"if a\nelse\nend":                                choice(nil, nil),
		"if a\nstop\nelse\nend":                          choice([]api.Stmt{stop}, nil),
		"if a\nelse\nstop\nend":                          choice(nil, []api.Stmt{stop}),
		"if a\nride b\nelse\nstop\nride b\nend":          choice([]api.Stmt{ride}, []api.Stmt{stop, ride}),
		"if a\nif a\nstop\nend\nelse\nride b\nend":       choice(choice([]api.Stmt{stop}, nil), []api.Stmt{ride}),
		"if a\nif a\nstop\nelse\nride b\nend\nend":       choice(choice([]api.Stmt{stop}, []api.Stmt{ride}), nil),
		"if a\nelse\nif a\nelse\nwhile a\nend\nend\nend": choice(nil, choice(nil, loop())),
		"while a\nend":                                   loop(),
		"while a\nstop\nend":                             loop(stop),
		"while a\nstop\nride b\nend\nride b":             append(loop(stop, ride), ride),
		"while a\nwhile a\nstop\nend\nend":               loop(loop(stop)...),
		"while a\nif a\nelse\nstop\nend\nend":            loop(choice(nil, []api.Stmt{stop})...),
		"hold a":                                         {{Op: api.SHold, E: a}},
		"hold dur(2)":                                    {{Op: api.SHold, E: two}},
		"hold (-5)":                                      {{Op: api.SHold, E: number(-5)}},
		"seize r 2 prio 1":                               {{Op: api.SSeize, Name: "r", E: number(2), F: number(1)}},
		"seize r 2 prio 1 preempt":                       {{Op: api.SSeize, Name: "r", E: number(2), F: number(1), Flag: true}},
		"seize r (a) prio -x + 1 preempt":                {{Op: api.SSeize, Name: "r", E: a, F: of(api.XAdd, neg(x), number(1)), Flag: true}},
		"release r x":                                    {{Op: api.SRelease, Name: "r", E: x}},
		"put x into a":                                   {{Op: api.SPut, Name: "a", E: x}},
		"put x > 1 into a":                               {{Op: api.SPut, Name: "a", E: of(api.XLt, number(1), x)}},
		"get x from a":                                   {{Op: api.SGet, Name: "a", Of: "x"}},
		"ride b":                                         {ride},
		"wait q":                                         {{Op: api.SWait, Name: "q"}},
		"signal q 3":                                     {{Op: api.SSignal, Name: "q", E: number(3)}},
		"signal q -3":                                    {{Op: api.SSignal, Name: "q", E: neg(number(3))}},
		"signal q (-3)":                                  {{Op: api.SSignal, Name: "q", E: number(-3)}},
		"send a.b () after dur(2)":                       {{Op: api.SSend, Of: "a", Name: "b", E: two}},
		"send a.b (1) after dur(2)":                      {{Op: api.SSend, Of: "a", Name: "b", Args: []api.Expr{number(1)}, E: two}},
		"send a . b (1, x, not a) after x":               {{Op: api.SSend, Of: "a", Name: "b", Args: []api.Expr{number(1), x, not(a)}, E: x}},
		"send a.b (-5) after x":                          {{Op: api.SSend, Of: "a", Name: "b", Args: []api.Expr{neg(number(5))}, E: x}},
		"send a.b ((-5), (x)) after (-6)":                {{Op: api.SSend, Of: "a", Name: "b", Args: []api.Expr{number(-5), x}, E: number(-6)}},
		"spawn f () after x":                             {{Op: api.SSpawn, Name: "f", E: x}},
		"spawn f (x) after 0":                            {{Op: api.SSpawn, Name: "f", Args: []api.Expr{x}, E: number(0)}},
		"spawn f (-5, (-5), a) after x":                  {{Op: api.SSpawn, Name: "f", Args: []api.Expr{neg(number(5)), number(-5), a}, E: x}},
		"spawn f (1, 2, 3, 4, 5, 6) after x":             {{Op: api.SSpawn, Name: "f", Args: []api.Expr{number(1), number(2), number(3), number(4), number(5), number(6)}, E: x}},
		"observe t x":                                    {{Op: api.SObserve, Name: "t", E: x}},
		"level l x":                                      {{Op: api.SLevel, Name: "l", E: x}},
		"add c x":                                        {{Op: api.SCount, Name: "c", E: x}},
		"add c -2":                                       {{Op: api.SCount, Name: "c", E: neg(number(2))}},
		"stop":                                           {stop},
		"stop\nride b\nstop\n":                           {stop, ride, stop},
	}
}

// part is a text that stands in the site a of a model, or beside it, and the model with it.
type part struct {
	text  string
	model api.Model
}

// own returns a model with one site.
func own(s api.SiteDecl) api.Model {
	s.Name = "a"
	return api.Model{Name: "m", Sites: []api.SiteDecl{s}}
}

// whole returns the text of a model with a part in its site.
func (p part) whole() string { return "model m\nsite a\n" + p.text + "\nend\nend" }

// beside returns parts of models beside the site a.
func beside() []part {
	with := func(change func(m *api.Model)) api.Model {
		m := own(api.SiteDecl{})
		change(&m)
		return m
	}
	params := func(l ...api.Value) api.Model { return with(func(m *api.Model) { m.Params = l }) }
	return []part{
		{"", own(api.SiteDecl{})},
		{"param p int = 5", params(api.Value{Name: "p", Type: api.Int, N: 5})},
		{"param p int = -5", params(api.Value{Name: "p", Type: api.Int, N: -5})},
		{"param p int = - 0", params(api.Value{Name: "p", Type: api.Int})},
		{"param p time = 5", params(api.Value{Name: "p", Type: api.Time, N: 5})},
		{"param p bool = true", params(api.Value{Name: "p", Type: api.Bool, N: 1})},
		{"param p bool = false", params(api.Value{Name: "p", Type: api.Bool})},
		{"param p int = 1\nparam a time = 2\nparam m bool = true", params(api.Value{Name: "p", Type: api.Int, N: 1}, api.Value{Name: "a", Type: api.Time, N: 2}, api.Value{Name: "m", Type: api.Bool, N: 1})},
		{"site b\nend", with(func(m *api.Model) { m.Sites = append(m.Sites, api.SiteDecl{Name: "b"}) })},
		{"site b\nqueue q\nend\nsite c\nend\nlink a b 4", with(func(m *api.Model) {
			m.Sites = append(m.Sites, api.SiteDecl{Name: "b", Queues: []string{"q"}}, api.SiteDecl{Name: "c"})
			m.Links = []api.Link{{From: "a", To: "b", Delay: 4}}
		})},
		{"link a b 4\nsite b\nend\nlink b a 1000000000\nparam p int = 1", with(func(m *api.Model) {
			m.Sites = append(m.Sites, api.SiteDecl{Name: "b"})
			m.Links = []api.Link{{From: "a", To: "b", Delay: 4}, {From: "b", To: "a", Delay: maxTime}}
			m.Params = []api.Value{{Name: "p", Type: api.Int, N: 1}}
		})},
	}
}

// declarations returns parts of the site a.
func declarations() []part {
	value := func(t api.Type, n int) api.Model {
		return own(api.SiteDecl{Vars: []api.Value{{Name: "v", Type: t, N: n}}})
	}
	resource := func(d api.ResourceDecl, streams ...string) api.Model {
		d.Name, d.Units = "r", 2
		return own(api.SiteDecl{Resources: []api.ResourceDecl{d}, Streams: streams})
	}
	one, three := []api.Change{{At: 0, Units: 1}}, []api.Change{{At: 0, Units: 1}, {At: 5, Units: 2}, {At: 8, Units: 0}}
	fault := api.Fault{Stream: "s", Up: always(7), Down: api.Dist{Op: api.DUniform, A: 1, B: 3}}
	tables := api.Fault{Stream: "s", Up: api.Dist{Op: api.DTable, Values: []int{1, 3}, Weights: []int{2, 4}}, Down: api.Dist{Op: api.DTable, Values: []int{5}, Weights: []int{6}}}
	others := api.Fault{Stream: "s", Up: api.Dist{Op: api.DSum, N: 1, A: 2, B: 3}, Down: api.Dist{Op: api.DGeom, A: 4, B: 5}}
	return []part{
		{"var v int = 5", value(api.Int, 5)},
		{"var v int = -1000000000000", value(api.Int, -maxInt)},
		{"var v time = 7", value(api.Time, 7)},
		{"var v time = -0", value(api.Time, 0)},
		{"var v bool = true", value(api.Bool, 1)},
		{"var v bool = false", value(api.Bool, 0)},
		{"var v int = 1\nvar w int = 2\nvar x time = 3", own(api.SiteDecl{Vars: []api.Value{{Name: "v", Type: api.Int, N: 1}, {Name: "w", Type: api.Int, N: 2}, {Name: "x", Type: api.Time, N: 3}}})},
		{"resource r 2", resource(api.ResourceDecl{})},
		{"resource r 2 shift 0:1 cycle 9", resource(api.ResourceDecl{Shift: one, Cycle: 9})},
		{"resource r 2 shift 0:1 5 : 2 8:0 cycle 9", resource(api.ResourceDecl{Shift: three, Cycle: 9})},
		{"resource r 2 fault s up const 7 down uniform 1 3\nstream s", resource(api.ResourceDecl{Fault: fault}, "s")},
		{"resource r 2 shift 0:1 cycle 9 fault s up const 7 down uniform 1 3\nstream s", resource(api.ResourceDecl{Shift: one, Cycle: 9, Fault: fault}, "s")},
		{"resource r 2 fault s up table 1:2 3:4 down table 5:6\nstream s", resource(api.ResourceDecl{Fault: tables}, "s")},
		{"stream s\nresource r 2 fault s up sum 1 2 3 down geom 4 5", resource(api.ResourceDecl{Fault: others}, "s")},
		{"resource r 1\nresource t 2\nresource u 3", own(api.SiteDecl{Resources: []api.ResourceDecl{{Name: "r", Units: 1}, {Name: "t", Units: 2}, {Name: "u", Units: 3}}})},
		{"store d 4 fifo", own(api.SiteDecl{Stores: []api.StoreDecl{{Name: "d", Room: 4, Policy: api.Fifo}}})},
		{"store d 4 lifo\nstore e 5 least", own(api.SiteDecl{Stores: []api.StoreDecl{{Name: "d", Room: 4, Policy: api.Lifo}, {Name: "e", Room: 5, Policy: api.Least}}})},
		{"belt b 5 3", own(api.SiteDecl{Belts: []api.BeltDecl{{Name: "b", Length: 5, Step: 3}}})},
		{"belt b 5 3\nbelt c 1 2", own(api.SiteDecl{Belts: []api.BeltDecl{{Name: "b", Length: 5, Step: 3}, {Name: "c", Length: 1, Step: 2}}})},
		{"queue q", own(api.SiteDecl{Queues: []string{"q"}})}, {"queue q\nqueue p", own(api.SiteDecl{Queues: []string{"q", "p"}})},
		{"stream q", own(api.SiteDecl{Streams: []string{"q"}})}, {"stream q\nstream p", own(api.SiteDecl{Streams: []string{"q", "p"}})},
		{"tally q", own(api.SiteDecl{Tallies: []string{"q"}})}, {"tally q\ntally p", own(api.SiteDecl{Tallies: []string{"q", "p"}})},
		{"level q", own(api.SiteDecl{Levels: []string{"q"}})}, {"level q\nlevel p", own(api.SiteDecl{Levels: []string{"q", "p"}})},
		{"count q", own(api.SiteDecl{Counts: []string{"q"}})}, {"count q\ncount p", own(api.SiteDecl{Counts: []string{"q", "p"}})},
		{"count a\nlevel b\ntally c\nstream d\nqueue e\ncount f", own(api.SiteDecl{Counts: []string{"a", "f"}, Levels: []string{"b"}, Tallies: []string{"c"}, Streams: []string{"d"}, Queues: []string{"e"}})},
	}
}

// routines returns parts of the site a with routines.
func routines() []part {
	routine := func(r api.Routine) api.Model {
		r.Name = "f"
		return own(api.SiteDecl{Routines: []api.Routine{r}})
	}
	x, y, z := api.Field{Name: "x", Type: api.Int}, api.Field{Name: "y", Type: api.Bool}, api.Field{Name: "z", Type: api.Time}
	begun := func(l ...api.Start) api.Model {
		return own(api.SiteDecl{Routines: []api.Routine{{Name: "f"}, {Name: "g", Params: []api.Field{x, y, z}}}, Starts: l})
	}
	law := func(n int, l ...api.Term) api.Model {
		return own(api.SiteDecl{Routines: []api.Routine{{Name: "f"}}, Counts: []string{"c"}, Stores: []api.StoreDecl{{Name: "d", Room: 1, Policy: api.Fifo}}, Laws: []api.Law{{Name: "k", Terms: l, Total: n}}})
	}
	two, declared := "routine f ()\nend\nroutine g (x int, y bool, z time)\nend\n", "routine f ()\nend\ncount c\nstore d 1 fifo\n"
	created, ended := api.Term{Coef: 1, What: "created", Name: "f"}, api.Term{Coef: -1, What: "ended", Name: "f"}
	return []part{
		{"routine f ()\nend", routine(api.Routine{})},
		{"routine f (x int)\nend", routine(api.Routine{Params: []api.Field{x}})},
		{"routine f (x int, y bool, z time)\nend", routine(api.Routine{Params: []api.Field{x, y, z}})},
		{"routine f ()\nlocal x int\nend", routine(api.Routine{Locals: []api.Field{x}})},
		{"routine f (z time)\nlocal x int\nlocal y bool\nend", routine(api.Routine{Params: []api.Field{z}, Locals: []api.Field{x, y}})},
		{"routine f ()\nstop\nend", routine(api.Routine{Body: []api.Stmt{{Op: api.SEnd}}})},
		{"routine f ()\nlocal x int\nif x\nlevel l x\nelse\nend\nstop\nend", routine(api.Routine{Locals: []api.Field{x}, Body: []api.Stmt{{Op: api.SIf, E: word("x"), Body: []api.Stmt{{Op: api.SLevel, Name: "l", E: word("x")}}}, {Op: api.SEnd}}})},
		{"routine f ()\nend\nroutine g (x int, y bool, z time)\nend", begun()},
		{two + "start f () at 3", begun(api.Start{Routine: "f", At: 3})},
		{two + "start f () at 3 every 2 until 9", begun(api.Start{Routine: "f", At: 3, Every: 2, Until: 9})},
		{two + "start f () at 3 every 0 until 0", begun(api.Start{Routine: "f", At: 3})},
		{two + "start g (1, 1, 1) at 0", begun(api.Start{Routine: "g", Args: []int{1, 1, 1}})},
		{two + "start g (-5, true, 9) at 0\nstart f () at 1", begun(api.Start{Routine: "g", Args: []int{-5, 1, 9}}, api.Start{Routine: "f", At: 1})},
		{"start f () at 3\nstart g (true, false, true) at 4 every 1 until 0\n" + two, begun(api.Start{Routine: "f", At: 3}, api.Start{Routine: "g", Args: []int{1, 0, 1}, At: 4, Every: 1})},
		{declared + "conserve k : created f = 0", law(0, created)},
		{declared + "conserve k : - ended f = -7", law(-7, ended)},
		{declared + "conserve k : created f - ended f = 7", law(7, created, ended)},
		{declared + "conserve k : 1 * created f - 1 * ended f + inside f = 0", law(0, created, ended, api.Term{Coef: 1, What: "inside", Name: "f"})},
		{declared + "conserve k : - 2 * counted c + 3 * stored d - 4 * left d + entered d - ended f = -0", law(0, api.Term{Coef: -2, What: "counted", Name: "c"}, api.Term{Coef: 3, What: "stored", Name: "d"}, api.Term{Coef: -4, What: "left", Name: "d"}, api.Term{Coef: 1, What: "entered", Name: "d"}, ended)},
	}
}

// modelForms has texts of models with their meanings (P12.1).
func modelForms() map[string]api.Model {
	forms := map[string]api.Model{}
	for _, p := range append(declarations(), routines()...) {
		forms[p.whole()] = p.model
	}
	for _, p := range beside() {
		// What stands beside a site can stand before it and behind it.
		forms["model m\nsite a\nend\n"+p.text+"\nend"] = p.model
		if len(p.model.Sites) == 1 {
			forms["model m\n"+p.text+"\nsite a\nend\nend"] = p.model
		}
	}
	return forms
}

func TestExprForms(t *testing.T) {
	g := readGrammar()
	for text, want := range exprForms() {
		for _, s := range []string{text, text + "\n", "\n" + text, " " + text + " # c\n\n# d"} {
			if e, errno := parse.Expr(s); !expr.Same(e, want) || errno != api.OK {
				t.Errorf("%q: %v %d", s, e, errno)
			}
			judge(t, g, "expr", s)
		}
	}
}

func TestStmtForms(t *testing.T) {
	g := readGrammar()
	for text, want := range stmtForms() {
		for _, s := range []string{text, text + "\n", "\n" + text, "\t" + text + " # c\n\n# d"} {
			if l, line, errno := parse.Stmts(s); !stmt.Same(l, want) || line != 0 || errno != api.OK {
				t.Errorf("%q: %v %d %d", s, l, line, errno)
			}
			judge(t, g, "stmts", s)
		}
	}
}

func TestModelForms(t *testing.T) {
	g := readGrammar()
	for text, want := range modelForms() {
		for _, s := range []string{text, text + "\n", "\n" + text, "\t" + text + " # c\n\n# d"} {
			if m, line, errno := parse.Model(s); !model.Same(m, want) || line != 0 || errno != api.OK {
				t.Errorf("%q: %v %d %d", s, m, line, errno)
			}
			judge(t, g, "model", s)
		}
	}
}
