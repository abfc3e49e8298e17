package parse

import (
	"simulator/api"
	"simulator/expr"
)

// onlyExpression reads an expression up to the end of the text.
func (r *reader) onlyExpression() api.Expr {
	e := r.expression()
	r.endLine()
	r.endText()
	return e
}

// operator is a binary operator and the form of its nodes.
type operator struct {
	text string
	op   api.ExprOp
}

// node returns an expression with Kids.
func node(op api.ExprOp, kids ...api.Expr) api.Expr { return api.Expr{Op: op, Kids: kids} }

// expression reads an expression, down from or, which binds least.
func (r *reader) expression() api.Expr {
	return r.chain((*reader).conjunction, operator{"or", api.XOr})
}

// conjunction reads what can stand beside or.
func (r *reader) conjunction() api.Expr {
	return r.chain((*reader).negation, operator{"and", api.XAnd})
}

// negation reads what can stand beside and.
func (r *reader) negation() api.Expr {
	if r.accept("not") {
		return node(api.XNot, r.negation())
	}
	return r.comparison()
}

// comparison reads what can stand behind not: a sum or two, but no comparison of comparisons.
func (r *reader) comparison() api.Expr {
	left := r.sum()
	switch {
	case r.accept("="):
		return node(api.XEq, left, r.sum())
	case r.accept("!="):
		return node(api.XNe, left, r.sum())
	case r.accept("<"):
		return node(api.XLt, left, r.sum())
	case r.accept("<="):
		return node(api.XLe, left, r.sum())
	case r.accept(">"):
		return node(api.XLt, r.sum(), left)
	case r.accept(">="):
		return node(api.XLe, r.sum(), left)
	}
	return left
}

// sum reads what can be compared.
func (r *reader) sum() api.Expr {
	return r.chain((*reader).product, operator{"+", api.XAdd}, operator{"-", api.XSub})
}

// product reads what can be added.
func (r *reader) product() api.Expr {
	return r.chain((*reader).factor, operator{"*", api.XMul}, operator{"/", api.XDiv}, operator{"%", api.XMod})
}

// chain reads operands with operators between them, which are combined from the left.
func (r *reader) chain(operand func(*reader) api.Expr, operators ...operator) api.Expr {
	e := operand(r)
	for {
		op, found := r.acceptOne(operators)
		if !found {
			return e
		}
		e = node(op, e, operand(r))
	}
}

// acceptOne takes the next token if it is one of some operators, and reports whether it is.
func (r *reader) acceptOne(operators []operator) (api.ExprOp, bool) {
	for _, o := range operators {
		if r.accept(o.text) {
			return o.op, true
		}
	}
	return 0, false
}

// factor reads what can be multiplied.
func (r *reader) factor() api.Expr {
	if r.accept("-") {
		return node(api.XNeg, r.factor())
	}
	return r.primary()
}

// primary reads what stands between operators.
func (r *reader) primary() api.Expr {
	switch {
	case r.token().Kind == api.TNumber:
		return expr.Const(api.Int, r.number())
	case r.sees("true"), r.sees("false"):
		return expr.Const(api.Bool, r.truth())
	case r.accept("now"):
		return api.Expr{Op: api.XNow}
	case r.accept("dur"):
		return r.ofOne(api.XDur)
	case r.accept("ticks"):
		return r.ofOne(api.XTicks)
	case r.accept("min"):
		return r.ofTwo(api.XMin)
	case r.accept("max"):
		return r.ofTwo(api.XMax)
	case r.accept("free"):
		return r.ofName(api.XFree)
	case r.accept("size"):
		return r.ofName(api.XSize)
	case r.accept("waiting"):
		return r.ofName(api.XWaiting)
	case r.sees("("):
		return r.group()
	}
	return api.Expr{Op: api.XName, Name: r.name()}
}

// ofOne reads an expression in parentheses as the only one of the Kids of a node.
func (r *reader) ofOne(op api.ExprOp) api.Expr {
	r.expect("(")
	kid := r.expression()
	r.expect(")")
	return node(op, kid)
}

// ofTwo reads two expressions in parentheses as the Kids of a node.
func (r *reader) ofTwo(op api.ExprOp) api.Expr {
	r.expect("(")
	first := r.expression()
	r.expect(",")
	second := r.expression()
	r.expect(")")
	return node(op, first, second)
}

// ofName reads a name in parentheses as that of a node.
func (r *reader) ofName(op api.ExprOp) api.Expr {
	r.expect("(")
	name := r.name()
	r.expect(")")
	return api.Expr{Op: op, Name: name}
}

// group reads an expression in parentheses, which have no node of their own.
func (r *reader) group() api.Expr {
	begin := r.next
	r.expect("(")
	e := r.expression()
	r.expect(")")
	// Four tokens with a minus sign are ( - NUMBER ) if its operand is a number, which then has no parentheses of its own.
	if r.next-begin == 4 && e.Op == api.XNeg && e.Kids[0].Op == api.XInt {
		return expr.Const(api.Int, -e.Kids[0].N)
	}
	return e
}
