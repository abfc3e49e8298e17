package parse

import "simulator/api"

// onlyStatements reads statements up to the end of the text.
func (r *reader) onlyStatements() []api.Stmt {
	l := r.statements()
	r.endText()
	return l
}

// statements reads statements, up to what can stand behind them.
func (r *reader) statements() []api.Stmt {
	var l []api.Stmt
	for !r.sees("end") && !r.sees("else") && r.token().Kind != api.TEnd {
		l = append(l, r.statement())
		r.endLine()
	}
	return l
}

// statement reads a statement without the end of its line.
func (r *reader) statement() api.Stmt {
	switch {
	case r.accept("set"):
		return r.set()
	case r.accept("draw"):
		return api.Stmt{Op: api.SDraw, Name: r.name(), Of: r.nameBehind("from"), Dist: r.dist()}
	case r.accept("if"):
		return r.choice()
	case r.accept("while"):
		return r.loop()
	case r.accept("hold"):
		return api.Stmt{Op: api.SHold, E: r.expression()}
	case r.accept("seize"):
		return r.seize()
	case r.accept("release"):
		return r.change(api.SRelease)
	case r.accept("put"):
		return api.Stmt{Op: api.SPut, E: r.expression(), Name: r.nameBehind("into")}
	case r.accept("get"):
		return api.Stmt{Op: api.SGet, Of: r.name(), Name: r.nameBehind("from")}
	case r.accept("ride"):
		return api.Stmt{Op: api.SRide, Name: r.name()}
	case r.accept("wait"):
		return api.Stmt{Op: api.SWait, Name: r.name()}
	case r.accept("signal"):
		return r.change(api.SSignal)
	case r.accept("send"):
		return r.send()
	case r.accept("spawn"):
		return r.begin(api.Stmt{Op: api.SSpawn})
	case r.accept("observe"):
		return r.change(api.SObserve)
	case r.accept("level"):
		return r.change(api.SLevel)
	case r.accept("add"):
		return r.change(api.SCount)
	case r.accept("stop"):
		return api.Stmt{Op: api.SEnd}
	}
	panic(r.wrong())
}

// change reads a name and an expression.
func (r *reader) change(op api.StmtOp) api.Stmt {
	return api.Stmt{Op: op, Name: r.name(), E: r.expression()}
}

// set reads what stands behind set.
func (r *reader) set() api.Stmt {
	name := r.name()
	r.expect("=")
	return api.Stmt{Op: api.SSet, Name: name, E: r.expression()}
}

// choice reads what stands behind if.
func (r *reader) choice() api.Stmt {
	s := api.Stmt{Op: api.SIf, E: r.condition(), Body: r.statements()}
	if r.accept("else") {
		r.endLine()
		s.Else = r.statements()
	}
	r.expect("end")
	return s
}

// loop reads what stands behind while.
func (r *reader) loop() api.Stmt {
	s := api.Stmt{Op: api.SWhile, E: r.condition(), Body: r.statements()}
	r.expect("end")
	return s
}

// condition reads an expression and the end of a line.
func (r *reader) condition() api.Expr {
	e := r.expression()
	r.endLine()
	return e
}

// seize reads what stands behind seize.
func (r *reader) seize() api.Stmt {
	s := r.change(api.SSeize)
	r.expect("prio")
	s.F = r.expression()
	s.Flag = r.accept("preempt")
	return s
}

// send reads what stands behind send.
func (r *reader) send() api.Stmt {
	s := api.Stmt{Op: api.SSend, Of: r.name()}
	r.expect(".")
	return r.begin(s)
}

// begin reads the routine that s begins, with its arguments and the time until then.
func (r *reader) begin(s api.Stmt) api.Stmt {
	s.Name = r.name()
	s.Args = listed(r, (*reader).expression)
	r.expect("after")
	s.E = r.expression()
	return s
}
