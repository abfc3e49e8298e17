package dist_test

import (
	"fmt"
	"math"
	"math/big"
	"math/rand/v2"
	"slices"
	"strings"
	"testing"

	"simulator/api"
	"simulator/dist"
	"simulator/stream"
)

const (
	maxTime        = api.MaxTime
	maxInt         = api.MaxInt
	most    uint64 = math.MaxUint64
	g       uint64 = 0x9e3779b97f4a7c15
)

func constant(a int) api.Dist   { return api.Dist{Op: api.DConst, A: a} }
func uniform(a, b int) api.Dist { return api.Dist{Op: api.DUniform, A: a, B: b} }
func sum(n, a, b int) api.Dist  { return api.Dist{Op: api.DSum, N: n, A: a, B: b} }
func geom(a, b int) api.Dist    { return api.Dist{Op: api.DGeom, A: a, B: b} }
func table(values, weights []int) api.Dist {
	return api.Dist{Op: api.DTable, Values: values, Weights: weights}
}

// repeated is a list of n equal numbers.
func repeated(n, value int) []int { return slices.Repeat([]int{value}, n) }

// with returns a list with another number at a place.
func with(list []int, at, n int) []int {
	changed := slices.Clone(list)
	changed[at] = n
	return changed
}

// counting is the list low, low + step, and so on, of n numbers.
func counting(n, low, step int) []int {
	list := make([]int, n)
	for i := range list {
		list[i] = low + i*step
	}
	return list
}

// constants has accepted distributions of this form, and so have the next four functions.
func constants() []api.Dist {
	return []api.Dist{constant(0), constant(1), constant(7), constant(maxTime - 1), constant(maxTime)}
}

func uniforms() []api.Dist {
	return []api.Dist{
		uniform(0, 0), uniform(0, 1), uniform(1, 1), uniform(1, 6), uniform(3, 3), uniform(5, 1004), uniform(0, 1<<16-1),
		uniform(1, 12), uniform(11, 22), uniform(0, maxTime), uniform(1, maxTime), uniform(maxTime-1, maxTime), uniform(maxTime, maxTime),
	}
}

func tables() []api.Dist {
	list := []api.Dist{
		table([]int{9, 2}, []int{1, 3}), table([]int{9, 2, 5, 2}, []int{1, 3, 2, 2}), table([]int{2, 9}, []int{3, 1}),
		table([]int{4}, []int{1}), table([]int{0}, []int{1000}), table([]int{maxTime}, []int{1}), table([]int{4, 4, 4}, []int{1, 2, 3}),
		table([]int{4, 4, 4}, []int{3, 2, 1}), table([]int{6, 1, 6, 1}, []int{1000, 1, 1, 1000}), table([]int{3, 2, 1, 0}, []int{1, 10, 100, 1000}),
		table([]int{0, maxTime}, []int{1000, 1}), table([]int{maxTime, 0}, []int{1000, 1}), table([]int{1, 2, 3}, []int{5, 5, 5}),
		table(counting(20, 1, 1), repeated(20, 1)), table(counting(20, 100, -5), counting(20, 1, 50)), table(repeated(20, maxTime), repeated(20, 1000)),
		table(repeated(20, 0), repeated(20, 1)), table(counting(19, 0, maxTime/19), counting(19, 1000, -50)),
	}
	source := rand.New(rand.NewPCG(4, 1))
	for n := 1; n <= 20; n++ {
		values, weights := make([]int, n), make([]int, n)
		for i := range n {
			values[i], weights[i] = source.IntN(n), 1+source.IntN(1000)
		}
		list = append(list, table(values, weights))
	}
	return list
}

func sums() []api.Dist {
	return []api.Dist{
		sum(1, 0, 0), sum(1, 1, 6), sum(2, 1, 6), sum(3, 1, 6), sum(4, 0, 1), sum(19, 5, 5), sum(20, 0, 0), sum(20, 3, 1000),
		sum(1, 1000000, 1000000), sum(20, 0, 1000000), sum(20, 1000000, 1000000), sum(20, 999999, 1000000),
	}
}

func geoms() []api.Dist {
	return []api.Dist{
		geom(1, 1), geom(1, 2), geom(1, 9), geom(1, 1000), geom(2, 1), geom(1000, 1), geom(2, 2), geom(2, 5), geom(2, 63), geom(2, 64), geom(2, 65),
		geom(2, 1000), geom(3, 7), geom(6, 100), geom(10, 1000), geom(999, 999), geom(1000, 2), geom(1000, 1000),
	}
}

// forms has accepted distributions of all forms but DSum.
func forms() []api.Dist { return slices.Concat(constants(), uniforms(), tables(), geoms()) }

func accepted() []api.Dist { return slices.Concat(forms(), sums()) }

// rejected has distributions that are not accepted.
func rejected() []api.Dist {
	var list []api.Dist
	for _, c := range faults() {
		list = append(list, c.d)
	}
	return list
}

// words has the ends of uint64, all powers of 2 and their neighbours, and random numbers, in increasing order.
func words() []uint64 {
	all := []uint64{0, 1<<63 + 1<<61, 1<<63 + 1<<61 - 1, 1<<63 + 1<<62 + 1<<61, most}
	for i := range 64 {
		all = append(all, 1<<i, 1<<i-1, 1<<i+1, -(1 << i), -(1<<i)-1, -(1<<i)+1)
	}
	source := rand.New(rand.NewPCG(4, 2))
	for range 300 {
		all = append(all, source.Uint64())
	}
	slices.Sort(all)
	return slices.Compact(all)
}

// unshifted undoes that x was combined with x >> shift.
func unshifted(x uint64, shift int) uint64 {
	result := x
	for range 64 / shift {
		result = x ^ result>>shift
	}
	return result
}

// inverse is the number that is multiplied by an odd one to get 1; each round doubles the number of its right bits.
func inverse(odd uint64) uint64 {
	result := odd
	for range 6 {
		result *= 2 - odd*result
	}
	return result
}

// unmixed is the number that stream.Mix makes x from.
func unmixed(x uint64) uint64 {
	x = unshifted(x, 31) * inverse(0x94d049bb133111eb)
	x = unshifted(x, 27) * inverse(0xbf58476d1ce4e5b9)
	return unshifted(x, 30)
}

// yielding is the stream at a position that has the next number u.
func yielding(u uint64, pos int, anti bool) api.Stream {
	inner := u
	if anti {
		inner = ^u
	}
	return api.Stream{Key: unmixed(inner) - uint64(pos+1)*g, Pos: pos, Anti: anti}
}

// streams has some valid streams, with 20 numbers left in all of them.
func streams() []api.Stream {
	list := []api.Stream{{}, {Anti: true}, stream.New(42, "cell.arrivals"), stream.Mirror(stream.New(42, "cell.arrivals"))}
	for _, key := range []uint64{1, 99, g, 1 << 63, most} {
		for _, pos := range []int{0, 5, 1 << 32, maxInt - 21, maxInt - 20} {
			list = append(list, api.Stream{Key: key, Pos: pos}, api.Stream{Key: key, Pos: pos, Anti: true})
		}
	}
	return list
}

// invalidStreams has streams that stream.Check rejects.
func invalidStreams() []api.Stream {
	var list []api.Stream
	for _, pos := range []int{-1, -20, math.MinInt, maxInt + 1, maxInt + 21, math.MaxInt} {
		list = append(list, api.Stream{Pos: pos}, api.Stream{Key: 99, Pos: pos, Anti: true})
	}
	return list
}

// needed is how many numbers Draw takes.
func needed(d api.Dist) int {
	if d.Op == api.DSum {
		return d.N
	}
	return 1
}

// numbers are the next n numbers of a stream.
func numbers(s api.Stream, n int) []uint64 {
	list := make([]uint64, n)
	for i := range list {
		list[i], s = stream.Next(s)
	}
	return list
}

// upper is the upper half of the product of u and n.
func upper(u uint64, n int) int {
	product := new(big.Int).Mul(new(big.Int).SetUint64(u), big.NewInt(int64(n)))
	return int(product.Rsh(product, 64).Int64())
}

// total is the sum of a list.
func total(list []int) int {
	result := 0
	for _, n := range list {
		result += n
	}
	return result
}

// tableOf is the definition of the value of a table: the least value for which k is less than the weights up to it.
func tableOf(d api.Dist, u uint64) int {
	k := upper(u, total(d.Weights))
	for _, value := range slices.Sorted(slices.Values(d.Values)) {
		weight := 0
		for i, other := range d.Values {
			if other <= value {
				weight += d.Weights[i]
			}
		}
		if k < weight {
			return value
		}
	}
	return -1
}

// geomOf is the definition of the value of DGeom.
func geomOf(d api.Dist, u uint64) int {
	w, bound := new(big.Int).SetUint64(most-u), new(big.Int).SetUint64(most)
	for k := 1; ; k++ {
		bound.Mul(bound, big.NewInt(int64(d.A-1)))
		bound.Div(bound, big.NewInt(int64(d.A)))
		if w.Cmp(bound) >= 0 || k == d.B {
			return k
		}
	}
}

// atOf is the definition of the value of an accepted form for a random number; for DSum that of one of its numbers.
func atOf(d api.Dist, u uint64) int {
	switch d.Op {
	case api.DConst:
		return d.A
	case api.DTable:
		return tableOf(d, u)
	case api.DGeom:
		return geomOf(d, u)
	}
	return d.A + upper(u, d.B-d.A+1)
}

// checkOf is the definition of Check.
func checkOf(d api.Dist) api.Errno {
	lists := len(d.Values) > 0 || len(d.Weights) > 0
	in := func(n, low, high int) bool { return n >= low && n <= high }
	unless := func(ok bool) api.Errno {
		if ok {
			return api.OK
		}
		return api.ErrRange
	}
	switch {
	case d.Op == api.DConst && d.B == 0 && d.N == 0 && !lists:
		return unless(in(d.A, 0, maxTime))
	case d.Op == api.DUniform && d.N == 0 && !lists:
		return unless(in(d.A, 0, maxTime) && in(d.B, d.A, maxTime))
	case d.Op == api.DSum && !lists:
		return unless(in(d.N, 1, 20) && in(d.A, 0, 1000000) && in(d.B, d.A, 1000000))
	case d.Op == api.DGeom && d.N == 0 && !lists:
		return unless(in(d.A, 1, 1000) && in(d.B, 1, 1000))
	case d.Op == api.DTable && d.A == 0 && d.B == 0 && d.N == 0:
		return checkTableOf(d)
	}
	return api.ErrArg
}

func checkTableOf(d api.Dist) api.Errno {
	if len(d.Values) != len(d.Weights) {
		return api.ErrForm
	}
	if len(d.Values) == 0 {
		return api.ErrShort
	}
	if len(d.Values) > 20 {
		return api.ErrLong
	}
	if slices.Min(d.Values) < 0 || slices.Max(d.Values) > maxTime || slices.Min(d.Weights) < 1 || slices.Max(d.Weights) > 1000 {
		return api.ErrRange
	}
	return api.OK
}

// textOf is the definition of Text of an accepted distribution.
func textOf(d api.Dist) string {
	switch d.Op {
	case api.DConst:
		return fmt.Sprintf("const %d", d.A)
	case api.DUniform:
		return fmt.Sprintf("uniform %d %d", d.A, d.B)
	case api.DSum:
		return fmt.Sprintf("sum %d %d %d", d.N, d.A, d.B)
	case api.DGeom:
		return fmt.Sprintf("geom %d %d", d.A, d.B)
	}
	words := []string{"table"}
	for i, value := range d.Values {
		words = append(words, fmt.Sprintf("%d:%d", value, d.Weights[i]))
	}
	return strings.Join(words, " ")
}

// P4.1

type fault struct {
	d    api.Dist
	want api.Errno
}

// faults has distributions that are not accepted, each with the error that comes first.
func faults() []fault {
	return slices.Concat(unknownForms(), unusedFields(), wrongRanges(), wrongTables(), severalErrors())
}

func unknownForms() []fault {
	var list []fault
	for _, op := range []api.DistOp{0, -1, 6, 7, 100, math.MinInt, math.MaxInt} {
		list = append(list,
			fault{api.Dist{Op: op}, api.ErrArg},
			fault{api.Dist{Op: op, A: 1, B: 2}, api.ErrArg},
			fault{api.Dist{Op: op, A: 1, B: 2, N: 1, Values: []int{1}, Weights: []int{1}}, api.ErrArg},
			fault{api.Dist{Op: op, A: -1, Values: []int{1}}, api.ErrArg},
		)
	}
	return list
}

func unusedFields() []fault {
	var list []fault
	add := func(d api.Dist) { list = append(list, fault{d, api.ErrArg}) }
	for _, n := range []int{1, -1, maxTime, math.MaxInt, math.MinInt} {
		add(api.Dist{Op: api.DConst, A: 7, B: n})
		add(api.Dist{Op: api.DConst, A: 7, N: n})
		add(api.Dist{Op: api.DUniform, A: 1, B: 6, N: n})
		add(api.Dist{Op: api.DTable, A: n, Values: []int{9, 2}, Weights: []int{1, 3}})
		add(api.Dist{Op: api.DTable, B: n, Values: []int{9, 2}, Weights: []int{1, 3}})
		add(api.Dist{Op: api.DTable, N: n, Values: []int{9, 2}, Weights: []int{1, 3}})
		add(api.Dist{Op: api.DGeom, A: 2, B: 5, N: n})
	}
	for _, d := range []api.Dist{constant(7), uniform(1, 6), sum(2, 1, 6), geom(2, 5)} {
		for _, l := range [][]int{{0}, {1}, {1, 2}} {
			values, weights, both := d, d, d
			values.Values, weights.Weights = l, l
			both.Values, both.Weights = l, l
			add(values)
			add(weights)
			add(both)
		}
	}
	return list
}

func wrongRanges() []fault {
	var list []fault
	for _, d := range []api.Dist{
		constant(-1), constant(maxTime + 1), constant(math.MinInt), constant(math.MaxInt),
		uniform(3, 2), uniform(-1, 2), uniform(-1, -1), uniform(1, 0), uniform(0, maxTime+1), uniform(maxTime+1, maxTime+1), uniform(maxTime, maxTime-1),
		uniform(maxTime+1, maxTime), uniform(math.MinInt, math.MaxInt), uniform(math.MaxInt, math.MinInt), uniform(math.MinInt, 5), uniform(5, math.MaxInt),
		sum(0, 0, 1), sum(-1, 0, 1), sum(21, 0, 1), sum(math.MinInt, 0, 1), sum(math.MaxInt, 0, 1), sum(2, -1, 1), sum(2, 3, 2), sum(2, 0, 1000001),
		sum(2, 1000001, 1000001), sum(2, 1000000, 999999), sum(2, math.MinInt, math.MaxInt), sum(0, 0, 0),
		geom(0, 1), geom(1, 0), geom(0, 0), geom(-1, 5), geom(5, -1), geom(1001, 1), geom(1, 1001), geom(1001, 1001), geom(math.MinInt, 5), geom(5, math.MaxInt),
	} {
		list = append(list, fault{d, api.ErrRange})
	}
	return list
}

func wrongTables() []fault {
	list := []fault{
		{table(nil, nil), api.ErrShort}, {table([]int{}, []int{}), api.ErrShort}, {table(nil, []int{}), api.ErrShort},
		{table([]int{9, 2}, []int{1}), api.ErrForm}, {table([]int{9}, []int{1, 3}), api.ErrForm}, {table(nil, []int{1}), api.ErrForm},
		{table([]int{1}, nil), api.ErrForm}, {table([]int{1}, []int{}), api.ErrForm}, {table(repeated(20, 1), repeated(21, 1)), api.ErrForm},
		{table(repeated(21, 1), repeated(20, 1)), api.ErrForm}, {table(repeated(21, 1), repeated(22, 1)), api.ErrForm},
		{table(repeated(21, 1), repeated(21, 1)), api.ErrLong}, {table(repeated(5000, 1), repeated(5000, 1)), api.ErrLong},
	}
	for _, n := range []int{1, 2, 20} {
		values, weights := repeated(n, 5), repeated(n, 5)
		for at := range n {
			for _, value := range []int{-1, maxTime + 1, math.MinInt, math.MaxInt} {
				list = append(list, fault{table(with(values, at, value), weights), api.ErrRange})
			}
			for _, weight := range []int{0, -1, 1001, math.MinInt, math.MaxInt} {
				list = append(list, fault{table(values, with(weights, at, weight)), api.ErrRange})
			}
		}
	}
	return list
}

func severalErrors() []fault {
	return []fault{
		{api.Dist{Op: api.DConst, A: -1, N: 1}, api.ErrArg}, {api.Dist{Op: api.DConst, A: maxTime + 1, Weights: []int{0}}, api.ErrArg},
		{api.Dist{Op: api.DUniform, A: 3, B: 2, N: 1}, api.ErrArg}, {api.Dist{Op: api.DSum, B: 1, Values: []int{1}}, api.ErrArg},
		{api.Dist{Op: api.DGeom, Weights: []int{1}}, api.ErrArg}, {api.Dist{Op: api.DGeom, N: 3}, api.ErrArg},
		{api.Dist{Op: api.DTable, A: 1, Values: []int{1, 2}, Weights: []int{1}}, api.ErrArg}, {api.Dist{Op: api.DTable, B: 1}, api.ErrArg},
		{api.Dist{Op: api.DTable, N: 1, Values: repeated(21, 1), Weights: repeated(21, 1)}, api.ErrArg},
		{api.Dist{Op: api.DTable, N: 1, Values: []int{-1}, Weights: []int{0}}, api.ErrArg},
		{table([]int{-1, 2}, []int{1}), api.ErrForm}, {table([]int{1}, []int{0, 0}), api.ErrForm},
		{table(repeated(21, -1), repeated(21, 1)), api.ErrLong}, {table(repeated(21, 1), repeated(21, 0)), api.ErrLong},
	}
}

func TestCheckAcceptsTheFormsOfTheTable(t *testing.T) {
	list := []api.Dist{
		{Op: api.DConst}, constant(maxTime), uniform(0, 0), uniform(3, 3), uniform(0, maxTime), uniform(maxTime, maxTime),
		table([]int{0}, []int{1}), table([]int{maxTime}, []int{1000}), table(repeated(20, maxTime), repeated(20, 1000)), table([]int{2, 2}, []int{1, 1}),
		sum(1, 0, 0), sum(20, 0, 1000000), sum(20, 1000000, 1000000), geom(1, 1), geom(1, 1000), geom(1000, 1), geom(1000, 1000),
		{Op: api.DConst, Values: []int{}, Weights: []int{}}, {Op: api.DUniform, B: 1, Values: []int{}}, {Op: api.DGeom, A: 1, B: 1, Weights: []int{}},
	}
	for _, d := range append(list, accepted()...) {
		if e := dist.Check(d); e != api.OK {
			t.Errorf("Check(%v) = %d", d, e)
		}
	}
}

func TestCheckRejectsOtherDistributions(t *testing.T) {
	for _, c := range faults() {
		if e := dist.Check(c.d); e != c.want {
			t.Errorf("Check(%v) = %d, want %d", c.d, e, c.want)
		}
	}
}

func TestCheckIsItsDefinition(t *testing.T) {
	numbers := []int{math.MinInt, -1, 0, 1, 2, 20, 21, 1000, 1001, 1000000, 1000001, maxTime, maxTime + 1, math.MaxInt}
	lists := [][]int{nil, {0}, {1}, {1, 1000}, {5, 2, 1001}, repeated(20, 9), repeated(21, 9), {3, -1}}
	for op := api.DistOp(-1); op <= 7; op++ {
		for _, a := range numbers {
			for _, b := range numbers {
				for _, n := range numbers {
					for i := range 1 + len(lists)*len(lists) {
						d := api.Dist{Op: op, A: a, B: b, N: n}
						if i > 0 {
							d.Values, d.Weights = lists[(i-1)/len(lists)], lists[(i-1)%len(lists)]
						}
						if got, want := dist.Check(d), checkOf(d); got != want {
							t.Fatalf("Check(%v) = %d, want %d", d, got, want)
						}
					}
				}
			}
		}
	}
}

func TestRejectedDistributionsHaveNoResults(t *testing.T) {
	s := stream.New(1, "a")
	for _, d := range rejected() {
		for _, u := range []uint64{0, 1 << 63, most} {
			if n, ok := dist.At(d, u); n != 0 || ok {
				t.Errorf("At(%v, %x) = %d, %v", d, u, n, ok)
			}
		}
		if n, after, e := dist.Draw(d, s); n != 0 || after != (api.Stream{}) || e != checkOf(d) {
			t.Errorf("Draw(%v) = %d, %v, %d", d, n, after, e)
		}
		if least, greatest := dist.Least(d), dist.Most(d); least != 0 || greatest != 0 {
			t.Errorf("Least and Most of %v are %d and %d", d, least, greatest)
		}
		if mean, ok := dist.Mean(d); mean != (api.Frac{}) || ok {
			t.Errorf("Mean(%v) = %v, %v", d, mean, ok)
		}
		if text := dist.Text(d); text != "" {
			t.Errorf("Text(%v) = %q", d, text)
		}
	}
}

func TestSameComparesAllFields(t *testing.T) {
	d := api.Dist{Op: 3, A: -1, B: 2, N: 3, Values: []int{4, 5}, Weights: []int{6}}
	equal := api.Dist{Op: 3, A: -1, B: 2, N: 3, Values: []int{4, 5}, Weights: []int{6}}
	if !dist.Same(d, equal) {
		t.Error("Same of equal distributions is false")
	}
	for name, change := range map[string]func(*api.Dist){
		"Op":             func(d *api.Dist) { d.Op = 4 },
		"A":              func(d *api.Dist) { d.A = 1 },
		"B":              func(d *api.Dist) { d.B = 3 },
		"N":              func(d *api.Dist) { d.N = 2 },
		"a value":        func(d *api.Dist) { d.Values = []int{4, 6} },
		"first value":    func(d *api.Dist) { d.Values = []int{3, 5} },
		"order":          func(d *api.Dist) { d.Values = []int{5, 4} },
		"fewer values":   func(d *api.Dist) { d.Values = []int{4} },
		"more values":    func(d *api.Dist) { d.Values = []int{4, 5, 0} },
		"no values":      func(d *api.Dist) { d.Values = nil },
		"a weight":       func(d *api.Dist) { d.Weights = []int{7} },
		"more weights":   func(d *api.Dist) { d.Weights = []int{6, 6} },
		"no weights":     func(d *api.Dist) { d.Weights = nil },
		"swapped lists":  func(d *api.Dist) { d.Values, d.Weights = d.Weights, d.Values },
		"moved elements": func(d *api.Dist) { d.Values, d.Weights = []int{4}, []int{5, 6} },
	} {
		other := equal
		change(&other)
		if dist.Same(d, other) || dist.Same(other, d) {
			t.Errorf("Same does not see the change: %s", name)
		}
	}
}

func TestSameAcceptsAnyValues(t *testing.T) {
	list := slices.Concat(accepted(), rejected())
	for _, d := range list {
		other := d
		other.Values, other.Weights = slices.Clone(d.Values), slices.Clone(d.Weights)
		if !dist.Same(d, other) {
			t.Errorf("Same of %v and its copy is false", d)
		}
	}
	if !dist.Same(api.Dist{}, api.Dist{Values: []int{}, Weights: []int{}}) || !dist.Same(api.Dist{Values: []int{}}, api.Dist{Weights: []int{}}) {
		t.Error("Same distinguishes nil and empty lists")
	}
}

// P4.2

func TestExamplesOfAt(t *testing.T) {
	late := table([]int{9, 2, 5, 2}, []int{1, 3, 2, 2})
	for _, c := range []struct {
		d    api.Dist
		u    uint64
		want int
	}{
		{constant(7), 0, 7}, {constant(0), most, 0}, {constant(maxTime), 1 << 63, maxTime},
		{uniform(1, 6), 0, 1}, {uniform(1, 6), 1<<63 - 1, 3}, {uniform(1, 6), 1 << 63, 4}, {uniform(1, 6), most, 6},
		{uniform(0, maxTime), 1 << 63, 500000000}, {uniform(0, maxTime), most, maxTime}, {uniform(maxTime, maxTime), most, maxTime},
		{uniform(3, 3), 0, 3}, {uniform(3, 3), most, 3},
		{table([]int{9, 2}, []int{1, 3}), 0, 2}, {table([]int{9, 2}, []int{1, 3}), 1 << 63, 2}, {table([]int{9, 2}, []int{1, 3}), 1<<63 + 1<<62 - 1, 2},
		{table([]int{9, 2}, []int{1, 3}), 1<<63 + 1<<62, 9}, {table([]int{9, 2}, []int{1, 3}), most, 9},
		{late, 0, 2}, {late, 1<<63 + 1<<61 - 1, 2}, {late, 1<<63 + 1<<61, 5}, {late, 1<<63 + 1<<62 + 1<<61 - 1, 5}, {late, 1<<63 + 1<<62 + 1<<61, 9},
		{geom(2, 5), 0, 1}, {geom(2, 5), 1 << 63, 1}, {geom(2, 5), 1<<63 + 1, 2}, {geom(2, 5), most, 5}, {geom(2, 5), 1<<63 + 1<<62, 2},
		{geom(2, 5), 1<<63 + 1<<62 + 1, 3}, {geom(2, 1000), most, 64}, {geom(2, 1000), most - 1, 63}, {geom(2, 63), most, 63},
		{geom(1, 9), 0, 1}, {geom(1, 9), most, 1}, {geom(1000, 1), 0, 1}, {geom(1000, 1), most, 1}, {geom(1000, 2), 0, 1}, {geom(1000, 2), most, 2},
		{geom(1000, 1000), most, 1000}, {geom(1000, 1000), 1 << 63, 693},
	} {
		if n, ok := dist.At(c.d, c.u); n != c.want || !ok {
			t.Errorf("At(%v, %x) = %d, %v, want %d", c.d, c.u, n, ok, c.want)
		}
	}
}

func TestAtIsItsDefinition(t *testing.T) {
	for _, d := range forms() {
		for _, u := range words() {
			if n, ok := dist.At(d, u); n != atOf(d, u) || !ok {
				t.Errorf("At(%v, %x) = %d, %v, want %d", d, u, n, ok, atOf(d, u))
			}
		}
	}
}

func TestSumsHaveNoValueForOneNumber(t *testing.T) {
	for _, d := range sums() {
		for _, u := range []uint64{0, 1 << 63, most} {
			if n, ok := dist.At(d, u); n != 0 || ok {
				t.Errorf("At(%v, %x) = %d, %v", d, u, n, ok)
			}
		}
	}
}

func TestValuesDoNotDecrease(t *testing.T) {
	for _, d := range forms() {
		last := 0
		for _, u := range words() {
			n, _ := dist.At(d, u)
			if n < last {
				t.Errorf("At(%v, %x) = %d is less than the value %d before", d, u, n, last)
			}
			last = n
		}
	}
}

// least is the least random number that has a value of at least n.
func least(d api.Dist, n int) uint64 {
	low, high := uint64(0), most
	for low < high {
		middle := low + (high-low)/2
		if value, _ := dist.At(d, middle); value >= n {
			high = middle
		} else {
			low = middle + 1
		}
	}
	return low
}

func TestValuesChangeAtTheBounds(t *testing.T) {
	for _, d := range []api.Dist{
		uniform(1, 6), uniform(0, 255), uniform(0, 99), table([]int{9, 2, 5, 2}, []int{1, 3, 2, 2}), table([]int{3, 2, 1, 0}, []int{1, 10, 100, 1000}),
		geom(2, 64), geom(3, 50), geom(1000, 100),
	} {
		for n := dist.Least(d) + 1; n <= dist.Most(d); n++ {
			u := least(d, n)
			for _, near := range []uint64{u - 1, u, u + 1} {
				if got, _ := dist.At(d, near); got != atOf(d, near) {
					t.Errorf("At(%v, %x) = %d, want %d", d, near, got, atOf(d, near))
				}
			}
		}
	}
}

func TestTheOrderOfATableDoesNotMatter(t *testing.T) {
	source := rand.New(rand.NewPCG(4, 3))
	for _, d := range tables() {
		values, weights := slices.Clone(d.Values), slices.Clone(d.Weights)
		source.Shuffle(len(values), func(i, j int) {
			values[i], values[j] = values[j], values[i]
			weights[i], weights[j] = weights[j], weights[i]
		})
		for _, u := range words() {
			first, _ := dist.At(d, u)
			second, _ := dist.At(table(values, weights), u)
			if first != second {
				t.Errorf("At(%v, %x) = %d, and %d in another order", d, u, first, second)
			}
		}
	}
}

// P4.3

func TestExamplesOfLeastAndMost(t *testing.T) {
	for _, c := range []struct {
		d             api.Dist
		least, utmost int
	}{
		{constant(0), 0, 0}, {constant(7), 7, 7}, {constant(maxTime), maxTime, maxTime}, {uniform(1, 6), 1, 6}, {uniform(0, maxTime), 0, maxTime},
		{table([]int{9, 2, 5, 2}, []int{1, 3, 2, 2}), 2, 9}, {table([]int{4}, []int{1000}), 4, 4}, {table([]int{maxTime, 0}, []int{1, 1}), 0, maxTime},
		{sum(3, 1, 6), 3, 18}, {sum(1, 0, 0), 0, 0}, {sum(20, 0, 1000000), 0, 20000000}, {sum(20, 1000000, 1000000), 20000000, 20000000},
		{geom(2, 1000), 1, 64}, {geom(2, 5), 1, 5}, {geom(1, 9), 1, 1}, {geom(1000, 1), 1, 1}, {geom(1000, 1000), 1, 1000},
	} {
		if least, utmost := dist.Least(c.d), dist.Most(c.d); least != c.least || utmost != c.utmost {
			t.Errorf("Least and Most of %v are %d and %d", c.d, least, utmost)
		}
	}
}

func TestLeastAndMostAreReached(t *testing.T) {
	for _, d := range accepted() {
		if least, want := dist.Least(d), needed(d)*atOf(d, 0); least != want {
			t.Errorf("Least(%v) = %d, want %d", d, least, want)
		}
		if utmost, want := dist.Most(d), needed(d)*atOf(d, most); utmost != want {
			t.Errorf("Most(%v) = %d, want %d", d, utmost, want)
		}
	}
	for _, d := range tables() {
		if dist.Least(d) != slices.Min(d.Values) || dist.Most(d) != slices.Max(d.Values) {
			t.Errorf("Least and Most of %v are %d and %d", d, dist.Least(d), dist.Most(d))
		}
	}
}

func TestValuesAreFromLeastToMost(t *testing.T) {
	for _, d := range accepted() {
		check := func(name string, n int) {
			if n < dist.Least(d) || n > dist.Most(d) {
				t.Errorf("%s of %v is %d", name, d, n)
			}
		}
		if d.Op != api.DSum {
			for _, u := range words() {
				n, _ := dist.At(d, u)
				check("At", n)
			}
		}
		for _, s := range streams() {
			n, _, e := dist.Draw(d, s)
			check("Draw", n)
			if e != api.OK {
				t.Errorf("Draw(%v, %v) = %d", d, s, e)
			}
		}
	}
}

// P4.4

// equidistant has n random numbers at equal distances, as many as there are, in the middles of n parts of equal size.
func equidistant(n int) []uint64 {
	distance := most / uint64(n)
	list := make([]uint64, n)
	for i := range list {
		list[i] = distance/2 + uint64(i)*distance
	}
	return list
}

// shares counts how many random numbers have each value.
func shares(t *testing.T, d api.Dist, list []uint64) map[int]int {
	counts := map[int]int{}
	for _, u := range list {
		n, ok := dist.At(d, u)
		if !ok {
			t.Fatalf("At(%v, %x) is false", d, u)
		}
		counts[n]++
	}
	return counts
}

func TestEachValueOfATableGetsItsShare(t *testing.T) {
	for _, d := range tables() {
		want := map[int]int{}
		for i, value := range d.Values {
			want[value] += d.Weights[i]
		}
		got := shares(t, d, equidistant(total(d.Weights)))
		if fmt.Sprint(got) != fmt.Sprint(want) {
			t.Errorf("shares of %v are %v, want %v", d, got, want)
		}
	}
}

func TestEachNumberOfAnIntervalGetsItsShare(t *testing.T) {
	for _, d := range []api.Dist{uniform(0, 0), uniform(maxTime, maxTime), uniform(0, 1), uniform(1, 6), uniform(5, 1004), uniform(0, 65535), uniform(maxTime-999, maxTime)} {
		n := d.B - d.A + 1
		counts := shares(t, d, equidistant(n))
		for value := d.A; value <= d.B; value++ {
			if counts[value] != 1 || len(counts) != n {
				t.Fatalf("%d of %d numbers have the value %d of %v", counts[value], n, value, d)
			}
		}
	}
}

func TestSharesBeginAtMultiples(t *testing.T) {
	for _, n := range []int{1, 2, 3, 6, 7, 8, 1000, 20000} {
		d := uniform(10, 9+n)
		for i := range n {
			// The least u with u n >= i 2^64.
			first := new(big.Int).Lsh(big.NewInt(int64(i)), 64)
			first.Add(first, big.NewInt(int64(n-1))).Div(first, big.NewInt(int64(n)))
			if got, _ := dist.At(d, first.Uint64()); got != 10+i {
				t.Errorf("At(%v, %x) = %d, want %d", d, first, got, 10+i)
			}
			if i == 0 {
				continue
			}
			if got, _ := dist.At(d, first.Uint64()-1); got != 9+i {
				t.Errorf("At(%v, %x - 1) = %d, want %d", d, first, got, 9+i)
			}
		}
	}
}

// meanOf is the mean of the values that one random number yields, from the shares of the values; not for DGeom.
func meanOf(d api.Dist) *big.Rat {
	switch d.Op {
	case api.DConst:
		return big.NewRat(int64(d.A), 1)
	case api.DTable:
		mean := new(big.Rat)
		for i, value := range d.Values {
			share := big.NewRat(int64(d.Weights[i]), int64(total(d.Weights)))
			mean.Add(mean, share.Mul(share, big.NewRat(int64(value), 1)))
		}
		return mean
	}
	return big.NewRat(int64(d.A+d.B), 2)
}

func TestMeanIsTheExpectedValue(t *testing.T) {
	for _, d := range accepted() {
		if d.Op == api.DGeom {
			continue
		}
		want := meanOf(d)
		want.Mul(want, big.NewRat(int64(needed(d)), 1))
		got, ok := dist.Mean(d)
		if !ok || int64(got.N) != want.Num().Int64() || int64(got.D) != want.Denom().Int64() {
			t.Errorf("Mean(%v) = %v, %v, want %v", d, got, ok, want)
		}
	}
}

func TestMeanOfTrials(t *testing.T) {
	for _, d := range geoms() {
		mean, ok := dist.Mean(d)
		if d.A == 1 || d.B == 1 {
			if mean != (api.Frac{N: 1, D: 1}) || !ok {
				t.Errorf("Mean(%v) = %v, %v", d, mean, ok)
			}
		} else if mean != (api.Frac{}) || ok {
			t.Errorf("Mean(%v) = %v, %v", d, mean, ok)
		}
	}
}

func TestExamplesOfMean(t *testing.T) {
	for _, c := range []struct {
		d           api.Dist
		top, bottom int
	}{
		{constant(7), 7, 1}, {constant(0), 0, 1}, {constant(maxTime), maxTime, 1}, {uniform(1, 6), 7, 2}, {uniform(1, 7), 4, 1}, {uniform(0, 0), 0, 1},
		{uniform(maxTime-1, maxTime), 2*maxTime - 1, 2}, {table([]int{9, 2}, []int{1, 3}), 15, 4}, {table([]int{9, 2, 5, 2}, []int{1, 3, 2, 2}), 29, 8},
		{table(repeated(20, maxTime), repeated(20, 1000)), maxTime, 1}, {table([]int{0}, []int{7}), 0, 1}, {sum(3, 1, 6), 21, 2}, {sum(2, 1, 6), 7, 1},
		{sum(20, 1000000, 1000000), 20000000, 1}, {geom(1, 9), 1, 1}, {geom(9, 1), 1, 1},
	} {
		if mean, ok := dist.Mean(c.d); mean != (api.Frac{N: c.top, D: c.bottom}) || !ok {
			t.Errorf("Mean(%v) = %v, %v, want %d/%d", c.d, mean, ok, c.top, c.bottom)
		}
	}
}

// P4.5

func TestDrawTakesTheNumbersThatItNeeds(t *testing.T) {
	for _, d := range accepted() {
		for _, s := range streams() {
			n, after, e := dist.Draw(d, s)
			want := s
			want.Pos += needed(d)
			if after != want || e != api.OK {
				t.Errorf("Draw(%v, %v) = %d, %v, %d", d, s, n, after, e)
			}
		}
	}
}

func TestDrawYieldsTheValuesOfTheNumbers(t *testing.T) {
	for _, d := range accepted() {
		for _, s := range streams() {
			want := 0
			for _, u := range numbers(s, needed(d)) {
				want += atOf(d, u)
			}
			if n, _, _ := dist.Draw(d, s); n != want {
				t.Errorf("Draw(%v, %v) = %d, want %d", d, s, n, want)
			}
		}
	}
}

func TestDrawAtChosenNumbers(t *testing.T) {
	for _, d := range forms() {
		for _, u := range []uint64{0, 1, 1<<63 - 1, 1 << 63, 1<<63 + 1, most - 1, most} {
			for _, s := range []api.Stream{yielding(u, 0, false), yielding(u, 8, true), yielding(u, maxInt-1, false), yielding(u, maxInt-1, true)} {
				if got, _, e := dist.Draw(d, s); got != atOf(d, u) || e != api.OK {
					t.Errorf("Draw(%v, %v) = %d, %d, want %d", d, s, got, e, atOf(d, u))
				}
			}
		}
	}
}

func TestDrawDependsOnTheNumbersAlone(t *testing.T) {
	for _, d := range accepted() {
		for _, s := range streams() {
			first, _, _ := dist.Draw(d, s)
			again, _, _ := dist.Draw(d, s)
			// This stream has the same numbers, at other positions.
			moved := api.Stream{Key: s.Key + uint64(s.Pos)*g, Anti: s.Anti}
			if !slices.Equal(numbers(s, 20), numbers(moved, 20)) {
				t.Fatalf("%v and %v have different numbers", s, moved)
			}
			second, _, _ := dist.Draw(d, moved)
			if first != again || first != second {
				t.Errorf("Draw of %v is %d, %d and %d for the same numbers", d, first, again, second)
			}
		}
	}
}

func TestSumsAreDrawnNumberByNumber(t *testing.T) {
	for _, d := range sums() {
		for _, s := range streams() {
			want, rest := 0, s
			for range d.N {
				n, after, e := dist.Draw(uniform(d.A, d.B), rest)
				if e != api.OK {
					t.Fatalf("Draw of %v from %v is the error %d", d, rest, e)
				}
				want, rest = want+n, after
			}
			if got, after, e := dist.Draw(d, s); got != want || after != rest || e != api.OK {
				t.Errorf("Draw(%v, %v) = %d, %v, %d, want %d, %v", d, s, got, after, e, want, rest)
			}
		}
	}
}

func TestDrawNeedsNumbersThatAreLeft(t *testing.T) {
	for _, d := range accepted() {
		for _, anti := range []bool{false, true} {
			last := api.Stream{Key: 99, Pos: maxInt - needed(d), Anti: anti}
			if _, after, e := dist.Draw(d, last); e != api.OK || after != (api.Stream{Key: 99, Pos: maxInt, Anti: anti}) {
				t.Errorf("Draw(%v, %v) = %v, %d", d, last, after, e)
			}
			for short := range needed(d) {
				s := api.Stream{Key: 99, Pos: maxInt - short, Anti: anti}
				if n, after, e := dist.Draw(d, s); n != 0 || after != (api.Stream{}) || e != api.ErrRange {
					t.Errorf("Draw(%v, %v) = %d, %v, %d", d, s, n, after, e)
				}
			}
		}
	}
}

func TestDrawRejectsStreams(t *testing.T) {
	for _, s := range invalidStreams() {
		for _, d := range accepted() {
			if n, after, e := dist.Draw(d, s); n != 0 || after != (api.Stream{}) || e != api.ErrRange {
				t.Errorf("Draw(%v, %v) = %d, %v, %d", d, s, n, after, e)
			}
		}
	}
}

func TestDrawNamesTheErrorOfTheDistributionFirst(t *testing.T) {
	for _, s := range append(invalidStreams(), api.Stream{Pos: maxInt}) {
		for _, c := range faults() {
			if n, after, e := dist.Draw(c.d, s); n != 0 || after != (api.Stream{}) || e != c.want {
				t.Errorf("Draw(%v, %v) = %d, %v, %d, want %d", c.d, s, n, after, e, c.want)
			}
		}
	}
}

func TestMirroredStreamsYieldMirroredValues(t *testing.T) {
	for _, s := range streams() {
		for _, d := range []api.Dist{uniform(1, 6), uniform(0, 255), uniform(5, 1004), sum(2, 1, 6), sum(20, 0, 1000)} {
			first, _, _ := dist.Draw(d, s)
			second, _, _ := dist.Draw(d, stream.Mirror(s))
			// Each number and its mirror image add up to A + B, or to one less at a bound.
			if both, utmost := first+second, needed(d)*(d.A+d.B); both > utmost || both < utmost-needed(d) {
				t.Errorf("values of %v and its mirrored stream are %d and %d for %v", s, first, second, d)
			}
		}
	}
}

// P4.6

func TestExamplesOfText(t *testing.T) {
	for text, d := range map[string]api.Dist{
		"const 7":                             constant(7),
		"const 0":                             constant(0),
		"const 1000000000":                    constant(maxTime),
		"uniform 1 6":                         uniform(1, 6),
		"uniform 0 1000000000":                uniform(0, maxTime),
		"table 9:1 2:3":                       table([]int{9, 2}, []int{1, 3}),
		"table 9:1 2:3 5:2 2:2":               table([]int{9, 2, 5, 2}, []int{1, 3, 2, 2}),
		"table 0:1000":                        table([]int{0}, []int{1000}),
		"table 4:1 4:1":                       table([]int{4, 4}, []int{1, 1}),
		"sum 3 1 6":                           sum(3, 1, 6),
		"sum 20 0 1000000":                    sum(20, 0, 1000000),
		"geom 2 1000":                         geom(2, 1000),
		"geom 1 9":                            geom(1, 9),
		"table 1:1 2:2 3:3 4:4":               table(counting(4, 1, 1), counting(4, 1, 1)),
		"table" + strings.Repeat(" 5:10", 20): table(repeated(20, 5), repeated(20, 10)),
	} {
		if got := dist.Text(d); got != text {
			t.Errorf("Text(%v) = %q, want %q", d, got, text)
		}
	}
}

// small has accepted distributions of all forms with small numbers, many of them alike.
func small() []api.Dist {
	var list []api.Dist
	lists := [][]int{{1}, {2}, {12}, {1, 1}, {1, 2}, {2, 1}, {1, 12}, {11, 2}, {1, 2, 1}, {2, 1, 1}, {1, 1, 2}}
	for _, a := range []int{0, 1, 2, 11, 12, 112} {
		for _, b := range []int{0, 1, 2, 11, 12, 112, 1112} {
			list = append(list, constant(a), uniform(a, b), geom(a, b))
			for _, n := range []int{1, 2, 11, 12} {
				list = append(list, sum(n, a, b))
			}
		}
	}
	for _, values := range lists {
		for _, weights := range lists {
			list = append(list, table(values, weights))
		}
	}
	return slices.DeleteFunc(list, func(d api.Dist) bool { return checkOf(d) != api.OK })
}

func TestTextIsItsDefinition(t *testing.T) {
	for _, d := range append(accepted(), small()...) {
		if got, want := dist.Text(d), textOf(d); got != want {
			t.Errorf("Text(%v) = %q, want %q", d, got, want)
		}
	}
}

func TestDifferentDistributionsHaveDifferentTexts(t *testing.T) {
	known := map[string]api.Dist{}
	for _, d := range append(accepted(), small()...) {
		text := dist.Text(d)
		if other, ok := known[text]; ok && !dist.Same(d, other) {
			t.Errorf("%v and %v have the text %q", d, other, text)
		}
		known[text] = d
	}
}

// R3, R4

func TestNilAndEmptyListsAreEquivalent(t *testing.T) {
	for _, d := range slices.Concat(constants(), uniforms(), sums(), geoms()) {
		empty := d
		empty.Values, empty.Weights = []int{}, []int{}
		n, after, e := dist.Draw(d, api.Stream{Key: 5})
		n2, after2, e2 := dist.Draw(empty, api.Stream{Key: 5})
		if n != n2 || after != after2 || e != e2 || dist.Text(d) != dist.Text(empty) || dist.Most(d) != dist.Most(empty) {
			t.Errorf("empty lists change %v", d)
		}
	}
}

func TestArgumentsAreNotChanged(t *testing.T) {
	for _, d := range slices.Concat(accepted(), rejected()) {
		values, weights := append(slices.Clone(d.Values), 77, 78), append(slices.Clone(d.Weights), 87, 88)
		given := d
		given.Values, given.Weights = values[:len(d.Values)], weights[:len(d.Weights)]
		beforeValues, beforeWeights := slices.Clone(values), slices.Clone(weights)
		dist.Check(given)
		dist.Same(given, given)
		dist.At(given, 1<<63)
		dist.Draw(given, api.Stream{Key: 5})
		dist.Least(given)
		dist.Most(given)
		dist.Mean(given)
		dist.Text(given)
		if !slices.Equal(values, beforeValues) || !slices.Equal(weights, beforeWeights) {
			t.Errorf("the lists of %v were changed", d)
		}
	}
}
