package parse

import "simulator/api"

// model reads a model up to the end of the text.
func (r *reader) model() api.Model {
	m := api.Model{Name: r.nameBehind("model")}
	r.endLine()
	for !r.accept("end") {
		r.part(&m)
	}
	r.endLine()
	r.endText()
	return m
}

// part reads a parameter, a link or a site of m.
func (r *reader) part(m *api.Model) {
	switch {
	case r.accept("param"):
		m.Params = append(m.Params, r.value())
	case r.accept("link"):
		m.Links = append(m.Links, api.Link{From: r.name(), To: r.name(), Delay: r.number()})
		r.endLine()
	case r.accept("site"):
		m.Sites = append(m.Sites, r.site())
	default:
		panic(r.wrong())
	}
}

// value reads what stands behind param or var.
func (r *reader) value() api.Value {
	v := api.Value{Name: r.name(), Type: r.typeWord()}
	r.expect("=")
	if v.Type == api.Bool {
		v.N = r.truth()
	} else {
		v.N = r.integer()
	}
	r.endLine()
	return v
}

// typeWord reads a type.
func (r *reader) typeWord() api.Type {
	switch {
	case r.accept("int"):
		return api.Int
	case r.accept("bool"):
		return api.Bool
	case r.accept("time"):
		return api.Time
	}
	panic(r.wrong())
}

// site reads what stands behind site.
func (r *reader) site() api.SiteDecl {
	s := api.SiteDecl{Name: r.nameLine()}
	for !r.accept("end") {
		r.declaration(&s)
	}
	r.endLine()
	return s
}

// declaration reads a declaration of s.
func (r *reader) declaration(s *api.SiteDecl) {
	switch {
	case r.accept("var"):
		s.Vars = append(s.Vars, r.value())
	case r.accept("resource"):
		s.Resources = append(s.Resources, r.resource())
	case r.accept("store"):
		s.Stores = append(s.Stores, r.store())
	case r.accept("belt"):
		s.Belts = append(s.Belts, r.belt())
	case r.accept("queue"):
		s.Queues = append(s.Queues, r.nameLine())
	case r.accept("stream"):
		s.Streams = append(s.Streams, r.nameLine())
	case r.accept("tally"):
		s.Tallies = append(s.Tallies, r.nameLine())
	case r.accept("level"):
		s.Levels = append(s.Levels, r.nameLine())
	case r.accept("count"):
		s.Counts = append(s.Counts, r.nameLine())
	case r.accept("routine"):
		s.Routines = append(s.Routines, r.routine())
	case r.accept("start"):
		s.Starts = append(s.Starts, r.start())
	case r.accept("conserve"):
		s.Laws = append(s.Laws, r.law())
	default:
		panic(r.wrong())
	}
}

// resource reads what stands behind resource.
func (r *reader) resource() api.ResourceDecl {
	d := api.ResourceDecl{Name: r.name(), Units: r.number()}
	if r.accept("shift") {
		for _, pair := range r.pairs() {
			d.Shift = append(d.Shift, api.Change{At: pair[0], Units: pair[1]})
		}
		r.expect("cycle")
		d.Cycle = r.number()
	}
	if r.accept("fault") {
		d.Fault.Stream = r.name()
		r.expect("up")
		d.Fault.Up = r.dist()
		r.expect("down")
		d.Fault.Down = r.dist()
	}
	r.endLine()
	return d
}

// store reads what stands behind store.
func (r *reader) store() api.StoreDecl {
	d := api.StoreDecl{Name: r.name(), Room: r.number(), Policy: r.policy()}
	r.endLine()
	return d
}

// policy reads the order in which items leave a store.
func (r *reader) policy() api.Policy {
	switch {
	case r.accept("fifo"):
		return api.Fifo
	case r.accept("lifo"):
		return api.Lifo
	case r.accept("least"):
		return api.Least
	}
	panic(r.wrong())
}

// belt reads what stands behind belt.
func (r *reader) belt() api.BeltDecl {
	d := api.BeltDecl{Name: r.name(), Length: r.number(), Step: r.number()}
	r.endLine()
	return d
}

// routine reads what stands behind routine.
func (r *reader) routine() api.Routine {
	d := api.Routine{Name: r.name(), Params: listed(r, (*reader).field)}
	r.endLine()
	for r.accept("local") {
		d.Locals = append(d.Locals, r.field())
		r.endLine()
	}
	d.Body = r.statements()
	r.expect("end")
	r.endLine()
	return d
}

// field reads a name and a type.
func (r *reader) field() api.Field {
	return api.Field{Name: r.name(), Type: r.typeWord()}
}

// start reads what stands behind start.
func (r *reader) start() api.Start {
	d := api.Start{Routine: r.name(), Args: listed(r, (*reader).argument)}
	r.expect("at")
	d.At = r.number()
	if r.accept("every") {
		d.Every = r.number()
		r.expect("until")
		d.Until = r.number()
	}
	r.endLine()
	return d
}

// argument reads the value of a parameter of a routine.
func (r *reader) argument() int {
	if r.sees("true") || r.sees("false") {
		return r.truth()
	}
	return r.integer()
}

// law reads what stands behind conserve.
func (r *reader) law() api.Law {
	d := api.Law{Name: r.name()}
	r.expect(":")
	// Before the first term a minus sign can stand, but no plus sign.
	if !r.sees("-") {
		d.Terms = append(d.Terms, r.term())
	}
	for !r.accept("=") {
		d.Terms = append(d.Terms, r.signedTerm())
	}
	d.Total = r.integer()
	r.endLine()
	return d
}

// signedTerm reads a sign and a term.
func (r *reader) signedTerm() api.Term {
	if r.accept("+") {
		return r.term()
	}
	r.expect("-")
	t := r.term()
	t.Coef = -t.Coef
	return t
}

// term reads a term without a sign.
func (r *reader) term() api.Term {
	t := api.Term{Coef: 1}
	if r.token().Kind == api.TNumber {
		t.Coef = r.number()
		r.expect("*")
	}
	t.What = r.name()
	t.Name = r.name()
	return t
}
