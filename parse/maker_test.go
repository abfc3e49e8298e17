package parse_test

import (
	"fmt"
	"math/rand/v2"
	"strings"

	"simulator/api"
)

// The limits of the document.
const (
	maxInt  = 1000000000000
	maxTime = 1000000000
	maxText = 20000
)

// maker makes valid models, statements and expressions by chance.
type maker struct {
	r    *rand.Rand
	made int
}

// name makes a name, some of which begin with a keyword; no name is made twice.
func (m *maker) name() string {
	m.made++
	s := fmt.Sprint(pick(m.r, "a", "end", "else_", "if_", "model", "now", "not_", "x_y", "true", "int_0", "const", "created", "stop", "z9"), m.made)
	if m.r.IntN(20) == 0 {
		return s + strings.Repeat("_", 24-len(s))
	}
	return s
}

// some makes from low to high elements.
func some[T any](m *maker, low, high int, create func() T) []T {
	var l []T
	for range low + m.r.IntN(high-low+1) {
		l = append(l, create())
	}
	return l
}

// upTo makes a number from 0 to n.
func (m *maker) upTo(n int) int {
	return min(n, pick(m.r, 0, 1, m.r.IntN(10), m.r.IntN(n+1), n))
}

// atom makes an expression without Kids.
func (m *maker) atom() api.Expr {
	switch m.r.IntN(8) {
	case 0, 1:
		return word(m.name())
	case 2:
		return number(m.upTo(maxInt))
	case 3:
		return number(-m.upTo(maxInt))
	case 4:
		return truth(m.r.IntN(2))
	case 5:
		return api.Expr{Op: api.XNow}
	case 6:
		return named(pick(m.r, api.XFree, api.XSize, api.XWaiting), m.name())
	}
	return pick(m.r, word("x"), number(1), number(-1), word("created"), word("inside"))
}

// expr makes an expression of at most so many nodes and levels.
func (m *maker) expr(nodes, levels int) api.Expr {
	if nodes < 2 || levels < 2 || m.r.IntN(8) == 0 {
		return m.atom()
	}
	op := api.ExprOp(5 + m.r.IntN(17))
	if op <= api.XTicks {
		return of(op, m.expr(nodes-1, levels-1))
	}
	if nodes < 3 {
		return m.atom()
	}
	left := 1 + m.r.IntN(nodes-2)
	return of(op, m.expr(left, levels-1), m.expr(nodes-1-left, levels-1))
}

// small makes a short expression.
func (m *maker) small() api.Expr { return m.expr(1+m.r.IntN(6), 6) }

// dist makes a distribution.
func (m *maker) dist() api.Dist {
	a := m.upTo(maxTime)
	switch m.r.IntN(5) {
	case 0:
		return api.Dist{Op: api.DConst, A: a}
	case 1:
		return api.Dist{Op: api.DUniform, A: a, B: a + m.upTo(maxTime-a)}
	case 2:
		low := m.upTo(1000000)
		return api.Dist{Op: api.DSum, N: 1 + m.upTo(19), A: low, B: low + m.upTo(1000000-low)}
	case 3:
		return api.Dist{Op: api.DGeom, A: 1 + m.upTo(999), B: 1 + m.upTo(999)}
	}
	d := api.Dist{Op: api.DTable}
	for range 1 + m.upTo(19) {
		d.Values, d.Weights = append(d.Values, m.upTo(maxTime)), append(d.Weights, 1+m.upTo(999))
	}
	return d
}

// stmts makes at most most statements in at most so many levels.
func (m *maker) stmts(most, levels int) []api.Stmt {
	if levels == 0 {
		return nil
	}
	var l []api.Stmt
	for most > 0 && m.r.IntN(6) > 0 {
		s := m.stmt()
		if s.Op == api.SIf || s.Op == api.SWhile {
			s.Body = m.stmts(most/3, levels-1)
		}
		if s.Op == api.SIf {
			s.Else = m.stmts(most/3, levels-1)
		}
		l = append(l, s)
		// The Bodies are no larger than this.
		most = most/3 - 1
	}
	return l
}

// stmt makes a statement without Body and Else.
func (m *maker) stmt() api.Stmt {
	s := api.Stmt{Op: api.StmtOp(1 + m.r.IntN(18))}
	switch s.Op {
	case api.SIf, api.SWhile, api.SHold:
		s.E = m.small()
	case api.SDraw:
		s.Name, s.Of, s.Dist = m.name(), m.name(), m.dist()
	case api.SGet:
		s.Name, s.Of = m.name(), m.name()
	case api.SRide, api.SWait:
		s.Name = m.name()
	case api.SSeize:
		s.Name, s.E, s.F, s.Flag = m.name(), m.small(), m.small(), m.r.IntN(2) == 0
	case api.SSend:
		s.Name, s.Of, s.E, s.Args = m.name(), m.name(), m.small(), some(m, 0, 6, m.small)
	case api.SSpawn:
		s.Name, s.E, s.Args = m.name(), m.small(), some(m, 0, 6, m.small)
	case api.SEnd:
	default:
		s.Name, s.E = m.name(), m.small()
	}
	return s
}

func (m *maker) typ() api.Type    { return pick(m.r, api.Int, api.Bool, api.Time) }
func (m *maker) field() api.Field { return api.Field{Name: m.name(), Type: m.typ()} }
func (m *maker) units() int       { return m.upTo(1000) }
func (m *maker) positive() int    { return 1 + m.upTo(999) }
func (m *maker) belt() api.BeltDecl {
	return api.BeltDecl{Name: m.name(), Length: m.positive(), Step: m.positive()}
}

// fitting makes a number of a type.
func (m *maker) fitting(t api.Type) int {
	switch t {
	case api.Int:
		return pick(m.r, 1, -1) * m.upTo(maxInt)
	case api.Bool:
		return m.r.IntN(2)
	}
	return m.upTo(maxTime)
}

func (m *maker) value() api.Value {
	v := api.Value{Name: m.name(), Type: m.typ()}
	v.N = m.fitting(v.Type)
	return v
}

func (m *maker) store() api.StoreDecl {
	return api.StoreDecl{Name: m.name(), Room: m.positive(), Policy: pick(m.r, api.Fifo, api.Lifo, api.Least)}
}

func (m *maker) routine() api.Routine {
	return api.Routine{Name: m.name(), Params: some(m, 0, 6, m.field), Locals: some(m, 0, 10, m.field), Body: m.stmts(60, 5)}
}

// resource makes a resource that can fail at the times of one of some streams.
func (m *maker) resource(streams []string) api.ResourceDecl {
	d := api.ResourceDecl{Name: m.name(), Units: m.units()}
	if m.r.IntN(2) == 0 {
		at := 0
		for range 1 + m.upTo(19) {
			d.Shift = append(d.Shift, api.Change{At: at, Units: m.units()})
			at += 1 + m.upTo(1000)
		}
		d.Cycle = at + m.upTo(1000)
	}
	if len(streams) > 0 && m.r.IntN(2) == 0 {
		d.Fault = api.Fault{Stream: pick(m.r, streams...), Up: m.dist(), Down: m.dist()}
	}
	return d
}

func (m *maker) start(of api.Routine) api.Start {
	s := api.Start{Routine: of.Name, At: m.upTo(maxTime)}
	for _, f := range of.Params {
		s.Args = append(s.Args, m.fitting(f.Type))
	}
	if m.r.IntN(2) == 0 {
		s.Every, s.Until = 1+m.upTo(maxTime-1), m.upTo(maxTime)
	}
	return s
}

func (m *maker) law(s api.SiteDecl) api.Law {
	term := func() api.Term {
		t := api.Term{Coef: pick(m.r, 1, -1, m.positive(), -m.positive()), What: pick(m.r, "created", "ended", "inside"), Name: s.Routines[0].Name}
		if len(s.Stores) > 0 && m.r.IntN(2) == 0 {
			t.What, t.Name = pick(m.r, "stored", "entered", "left"), pick(m.r, s.Stores...).Name
		}
		if len(s.Counts) > 0 && m.r.IntN(3) == 0 {
			t.What, t.Name = "counted", pick(m.r, s.Counts...)
		}
		return t
	}
	return api.Law{Name: m.name(), Terms: some(m, 1, 8, term), Total: m.fitting(api.Int)}
}

func (m *maker) site() api.SiteDecl {
	s := api.SiteDecl{
		Name: m.name(), Vars: some(m, 0, 3, m.value), Stores: some(m, 0, 3, m.store), Belts: some(m, 0, 3, m.belt),
		Queues: some(m, 0, 3, m.name), Streams: some(m, 0, 3, m.name), Tallies: some(m, 0, 3, m.name), Levels: some(m, 0, 3, m.name), Counts: some(m, 0, 3, m.name),
		Routines: some(m, 0, 3, m.routine),
	}
	s.Resources = some(m, 0, 3, func() api.ResourceDecl { return m.resource(s.Streams) })
	if len(s.Routines) > 0 {
		s.Starts = some(m, 0, 3, func() api.Start { return m.start(pick(m.r, s.Routines...)) })
		s.Laws = some(m, 0, 3, func() api.Law { return m.law(s) })
	}
	return s
}

// model makes a model.
func (m *maker) model() api.Model {
	x := api.Model{Name: m.name(), Params: some(m, 0, 4, m.value), Sites: some(m, 1, 4, m.site)}
	for i := range x.Sites {
		for j := range x.Sites {
			if i != j && m.r.IntN(2) == 0 {
				x.Links = append(x.Links, api.Link{From: x.Sites[i].Name, To: x.Sites[j].Name, Delay: 1 + m.upTo(maxTime-1)})
			}
		}
	}
	return x
}
