package parse

import (
	"simulator/api"
	"simulator/names"
)

// number reads a number.
func (r *reader) number() int { return r.take(api.TNumber).N }

// integer reads a number with or without a minus sign.
func (r *reader) integer() int {
	if r.accept("-") {
		return -r.number()
	}
	return r.number()
}

// truth reads true as 1 and false as 0.
func (r *reader) truth() int {
	if r.accept("true") {
		return 1
	}
	r.expect("false")
	return 0
}

// name reads a name.
func (r *reader) name() string {
	if names.Keyword(r.token().Text) {
		panic(r.wrong())
	}
	return r.take(api.TWord).Text
}

// nameBehind reads a keyword and a name.
func (r *reader) nameBehind(keyword string) string {
	r.expect(keyword)
	return r.name()
}

// nameLine reads a name and the end of a line.
func (r *reader) nameLine() string {
	name := r.name()
	r.endLine()
	return name
}

// endLine reads the end of a line.
func (r *reader) endLine() { r.take(api.TLine) }

// endText reads the end of the text.
func (r *reader) endText() { r.take(api.TEnd) }

// pairs reads one or more pairs of numbers.
func (r *reader) pairs() [][2]int {
	l := [][2]int{r.pair()}
	for r.token().Kind == api.TNumber {
		l = append(l, r.pair())
	}
	return l
}

// pair reads two numbers with a colon between them.
func (r *reader) pair() [2]int {
	first := r.number()
	r.expect(":")
	return [2]int{first, r.number()}
}

// listed reads elements in parentheses, which can be none, with commas between them.
func listed[T any](r *reader, element func(*reader) T) []T {
	r.expect("(")
	var l []T
	for !r.accept(")") {
		if len(l) > 0 {
			r.expect(",")
		}
		l = append(l, element(r))
	}
	return l
}

// dist reads a distribution.
func (r *reader) dist() api.Dist {
	switch {
	case r.accept("const"):
		return api.Dist{Op: api.DConst, A: r.number()}
	case r.accept("uniform"):
		return api.Dist{Op: api.DUniform, A: r.number(), B: r.number()}
	case r.accept("table"):
		d := api.Dist{Op: api.DTable}
		for _, pair := range r.pairs() {
			d.Values = append(d.Values, pair[0])
			d.Weights = append(d.Weights, pair[1])
		}
		return d
	case r.accept("sum"):
		return api.Dist{Op: api.DSum, N: r.number(), A: r.number(), B: r.number()}
	case r.accept("geom"):
		return api.Dist{Op: api.DGeom, A: r.number(), B: r.number()}
	}
	panic(r.wrong())
}
