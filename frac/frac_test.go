package frac_test

import (
	"math"
	"math/big"
	"math/rand/v2"
	"slices"
	"testing"

	"simulator/api"
	"simulator/frac"
)

const (
	maxNum = api.MaxNum
	maxDen = api.MaxDen
	// prime is the greatest prime number that is a denominator.
	prime = 999999999999989
)

var none = api.Frac{}

func f(n, d int) api.Frac { return api.Frac{N: n, D: d} }

func exact(n int) *big.Int { return big.NewInt(int64(n)) }

// value returns the rational number of a fraction whose denominator is not 0.
func value(a api.Frac) *big.Rat { return new(big.Rat).SetFrac(exact(a.N), exact(a.D)) }

// isValid is the definition of validity.
func isValid(a api.Frac) bool {
	if a.D < 1 || a.D > maxDen || a.N < -maxNum || a.N > maxNum {
		return false
	}
	n := exact(a.N)
	return new(big.Int).GCD(nil, nil, n.Abs(n), exact(a.D)).Cmp(exact(1)) == 0
}

// fraction returns the valid fraction with a value, if there is one.
func fraction(r *big.Rat) (api.Frac, bool) {
	if r.Denom().Cmp(exact(maxDen)) > 0 || r.Num().CmpAbs(exact(maxNum)) > 0 {
		return none, false
	}
	return f(int(r.Num().Int64()), int(r.Denom().Int64())), true
}

// numbers has small ints, both sides of each bound, and the ends of int.
func numbers() []int {
	all := []int{math.MinInt, math.MinInt + 1, math.MinInt + 2, 0}
	for _, n := range []int{
		1, 2, 3, 4, 6, 7, 10, 97, 360, 1 << 31, 1<<32 + 1, 3037000499, api.MaxInt, api.MaxInt + 1,
		prime - 1, prime, maxDen / 2, maxDen/2 + 1, maxDen - 1, maxDen, maxDen + 1, maxDen + 2, 2 * maxDen, 3 * maxDen,
		maxNum / 2, maxNum - 1, maxNum, maxNum + 1, maxNum + 2, math.MaxInt - 1, math.MaxInt,
	} {
		all = append(all, n, -n)
	}
	return all
}

// valids has all valid fractions that consist of such numbers.
func valids() []api.Frac {
	var all []api.Frac
	for _, n := range numbers() {
		for _, d := range numbers() {
			if isValid(f(n, d)) {
				all = append(all, f(n, d))
			}
		}
	}
	return all
}

// invalids has fractions that break each condition of validity, alone and together.
func invalids() []api.Frac {
	return []api.Frac{
		{}, f(2, 4), f(-2, 4), f(0, 2), f(0, -1), f(0, maxDen), f(1, -2), f(-1, -1), f(5, 0), f(3, 3),
		f(maxNum+1, 1), f(-maxNum-1, 1), f(1, maxDen+1), f(-1, maxDen+1), f(maxNum, 2), f(maxDen, maxDen), f(10, maxDen),
		f(math.MinInt, 1), f(math.MaxInt, 1), f(1, math.MaxInt), f(1, math.MinInt), f(math.MinInt, 3),
		f(math.MinInt, math.MinInt), f(math.MaxInt, math.MaxInt), f(math.MinInt, math.MaxInt), f(0, math.MinInt),
	}
}

// samples has the same valid fractions at each call: some with small and some with large numbers.
func samples(count int) []api.Frac {
	source := rand.New(rand.NewPCG(2, uint64(count)))
	var all []api.Frac
	for len(all) < count {
		n := source.IntN(maxNum>>source.IntN(62) + 1)
		d := source.IntN(maxDen>>source.IntN(50)+1) + 1
		if source.IntN(2) == 0 {
			n = -n
		}
		if isValid(f(n, d)) {
			all = append(all, f(n, d))
		}
	}
	return all
}

// operands has fractions of all kinds.
func operands() []api.Frac { return slices.Concat(valids(), invalids(), samples(200)) }

// eachPair calls check for all pairs of a part of the operands, as all pairs would be too many.
func eachPair(check func(a, b api.Frac)) {
	all := slices.Concat(invalids(), samples(120))
	for i, a := range valids() {
		if i%4 == 0 || a.N == 0 || a.D == maxDen || a.D == 1 {
			all = append(all, a)
		}
	}
	for _, a := range all {
		for _, b := range all {
			check(a, b)
		}
	}
}

// P2.1

func TestValidIsItsDefinition(t *testing.T) {
	for _, n := range numbers() {
		for _, d := range numbers() {
			if got := frac.Valid(f(n, d)); got != isValid(f(n, d)) {
				t.Errorf("Valid(%d/%d) is %v", n, d, got)
			}
		}
	}
	for n := -30; n <= 30; n++ {
		for d := -30; d <= 30; d++ {
			if got := frac.Valid(f(n, d)); got != isValid(f(n, d)) {
				t.Errorf("Valid(%d/%d) is %v", n, d, got)
			}
		}
	}
}

func TestExamplesOfValid(t *testing.T) {
	for _, a := range []api.Frac{
		f(3, 2), f(-3, 2), f(0, 1), f(1, 1), f(maxNum, 1), f(-maxNum, 1), f(1, maxDen), f(-1, maxDen), f(maxNum, prime),
	} {
		if !frac.Valid(a) {
			t.Errorf("Valid(%v) is false", a)
		}
	}
	for _, a := range invalids() {
		if frac.Valid(a) {
			t.Errorf("Valid(%v) is true", a)
		}
	}
}

func checkOf(t *testing.T, n, d int) {
	t.Helper()
	want, exists := none, false
	if d != 0 {
		want, exists = fraction(value(f(n, d)))
	}
	if got, ok := frac.Of(n, d); got != want || ok != exists {
		t.Errorf("Of(%d, %d) = %v, %v, want %v, %v", n, d, got, ok, want, exists)
	}
}

func TestOfReturnsTheFractionIfThereIsOne(t *testing.T) {
	for _, n := range numbers() {
		for _, d := range numbers() {
			checkOf(t, n, d)
		}
	}
	for n := -60; n <= 60; n++ {
		for d := -60; d <= 60; d++ {
			checkOf(t, n, d)
		}
	}
}

func TestOfReducesLargeNumbers(t *testing.T) {
	for _, a := range samples(500) {
		for _, k := range []int{1, -1, 2, 3, 7, 1000, 9223} {
			if product := new(big.Int).Mul(exact(a.N), exact(k)); product.IsInt64() {
				checkOf(t, a.N*k, a.D*k)
			}
		}
		if got, ok := frac.Of(a.N, a.D); got != a || !ok {
			t.Errorf("Of changes %v to %v, %v", a, got, ok)
		}
	}
}

func TestExamplesOfOf(t *testing.T) {
	for _, c := range []struct {
		n, d int
		want api.Frac
		ok   bool
	}{
		{6, -4, f(-3, 2), true},
		{-6, -4, f(3, 2), true},
		{0, -9, f(0, 1), true},
		{0, math.MinInt, f(0, 1), true},
		{0, 0, none, false},
		{1, 0, none, false},
		{math.MinInt, 0, none, false},
		{math.MinInt, 2, f(-maxNum, 1), true},
		{math.MinInt, -2, f(maxNum, 1), true},
		{math.MinInt, 1, none, false},
		{math.MinInt, -1, none, false},
		{math.MinInt, math.MinInt, f(1, 1), true},
		{math.MaxInt, math.MaxInt, f(1, 1), true},
		{maxNum, math.MinInt, f(-1, 2), true},
		{math.MinInt, 2 * maxDen, f(-1<<47, 30517578125), true},
		{1, 1000000000000001, none, false},
		{2, maxDen + 2, f(1, maxDen/2+1), true},
		{-1, -maxDen, f(1, maxDen), true},
		{1, math.MinInt, none, false},
		{maxNum + 1, 1, none, false},
		{maxNum + 2, 2, f(maxNum/2+1, 1), true},
	} {
		if got, ok := frac.Of(c.n, c.d); got != c.want || ok != c.ok {
			t.Errorf("Of(%d, %d) = %v, %v, want %v, %v", c.n, c.d, got, ok, c.want, c.ok)
		}
	}
}

// P2.2

type operation struct {
	name  string
	apply func(a, b api.Frac) (api.Frac, bool)
	exact func(z, x, y *big.Rat) *big.Rat
}

func operations() []operation {
	return []operation{
		{"Add", frac.Add, (*big.Rat).Add},
		{"Sub", frac.Sub, (*big.Rat).Sub},
		{"Mul", frac.Mul, (*big.Rat).Mul},
		{"Div", frac.Div, (*big.Rat).Quo},
	}
}

// result is the definition of an operation.
func result(o operation, a, b api.Frac) (api.Frac, bool) {
	if !isValid(a) || !isValid(b) || o.name == "Div" && b.N == 0 {
		return none, false
	}
	return fraction(o.exact(new(big.Rat), value(a), value(b)))
}

func TestOperationsAreExact(t *testing.T) {
	for _, o := range operations() {
		accepted, refused := 0, 0
		eachPair(func(a, b api.Frac) {
			want, exists := result(o, a, b)
			if got, ok := o.apply(a, b); got != want || ok != exists {
				t.Errorf("%s(%v, %v) = %v, %v, want %v, %v", o.name, a, b, got, ok, want, exists)
			}
			if exists {
				accepted++
			} else if isValid(a) && isValid(b) {
				refused++
			}
		})
		if accepted < 5000 || refused < 5000 {
			t.Errorf("%s: only %d results, and %d pairs without one", o.name, accepted, refused)
		}
	}
}

func TestOperationsOnSmallFractions(t *testing.T) {
	var small []api.Frac
	for n := -8; n <= 8; n++ {
		for d := 1; d <= 8; d++ {
			if isValid(f(n, d)) {
				small = append(small, f(n, d))
			}
		}
	}
	for _, o := range operations() {
		for _, a := range small {
			for _, b := range small {
				want, exists := result(o, a, b)
				if got, ok := o.apply(a, b); got != want || ok != exists {
					t.Errorf("%s(%v, %v) = %v, %v, want %v, %v", o.name, a, b, got, ok, want, exists)
				}
			}
		}
	}
}

// In each of these, a product of numerators and denominators exceeds 64 bits, or the limits before it is reduced.
func TestOperationsWithLargeNumbersInBetween(t *testing.T) {
	for _, c := range []struct {
		name      string
		a, b      api.Frac
		operation func(a, b api.Frac) (api.Frac, bool)
		want      api.Frac
	}{
		{"Sub", f(maxNum, prime), f(maxNum-prime, prime), frac.Sub, f(1, 1)},
		{"Add", f(maxNum, 3), f(-maxNum+3, 3), frac.Add, f(1, 1)},
		{"Add", f(maxNum, maxDen-1), f(-maxNum, maxDen-1), frac.Add, f(0, 1)},
		{"Add", f(maxNum, prime), f(-maxNum, prime), frac.Add, f(0, 1)},
		{"Add", f(maxNum, 999999999999), f(-1, 3), frac.Add, f(maxNum-333333333333, 999999999999)},
		{"Sub", f(500000000000001, 500000000000000), f(maxDen-1, maxDen), frac.Sub, f(3, maxDen)},
		{"Add", f(1, 600000000000000), f(1, 300000000000000), frac.Add, f(1, 200000000000000)},
		{"Sub", f(1, 400000000000000), f(1, 600000000000000), frac.Sub, none},
		{"Mul", f(maxNum, prime), f(prime, maxNum/2), frac.Mul, none},
		{"Mul", f(maxNum, prime), f(prime, 1<<49), frac.Mul, f(1<<13, 1)},
		{"Mul", f(-maxNum, maxDen-1), f(maxDen-1, 1<<49), frac.Mul, f(-1<<13, 1)},
		{"Div", f(maxNum, prime), f(maxNum, prime), frac.Div, f(1, 1)},
		{"Div", f(maxNum, prime), f(-maxNum, maxDen-1), frac.Div, f(-maxDen+1, prime)},
		{"Div", f(1, prime), f(1, prime), frac.Div, f(1, 1)},
		{"Div", f(maxNum-1, 1), f(maxNum-1, maxDen), frac.Div, f(maxDen, 1)},
		// Products that are 0 or small modulo 2^64: 2^49 times 32769 is 2^64 more than 2^49.
		{"Mul", f(1<<32, 1), f(1<<32, 1), frac.Mul, none},
		{"Mul", f(1, 1<<32), f(1, 1<<32), frac.Mul, none},
		{"Mul", f(1<<40, 1), f(1<<24+1, 1), frac.Mul, none},
		{"Add", f(1, 1<<49), f(1, 32769), frac.Add, none},
		{"Sub", f(1, 32769), f(1, 1<<49), frac.Sub, none},
		{"Div", f(1, 1<<32), f(1<<32, 1), frac.Div, none},
	} {
		if got, ok := c.operation(c.a, c.b); got != c.want || ok != (c.want != none) {
			t.Errorf("%s(%v, %v) = %v, %v, want %v", c.name, c.a, c.b, got, ok, c.want)
		}
	}
}

func TestExamplesOfOperations(t *testing.T) {
	half, third, zero, one := f(1, 2), f(1, 3), f(0, 1), f(1, 1)
	for _, c := range []struct {
		a, b               api.Frac
		add, sub, mul, div api.Frac
	}{
		{half, third, f(5, 6), f(1, 6), f(1, 6), f(3, 2)},
		{third, half, f(5, 6), f(-1, 6), f(1, 6), f(2, 3)},
		{zero, half, half, f(-1, 2), zero, zero},
		{half, zero, half, half, zero, none},
		{zero, zero, zero, zero, zero, none},
		{half, f(-1, 2), zero, one, f(-1, 4), f(-1, 1)},
		{f(-1, 2), f(-1, 3), f(-5, 6), f(-1, 6), f(1, 6), f(3, 2)},
		{f(maxNum, 1), one, none, f(maxNum-1, 1), f(maxNum, 1), f(maxNum, 1)},
		{f(-maxNum, 1), one, f(-maxNum+1, 1), none, f(-maxNum, 1), f(-maxNum, 1)},
		{f(maxNum, 1), f(-1, 1), f(maxNum-1, 1), none, f(-maxNum, 1), f(-maxNum, 1)},
		{f(maxNum, 1), f(maxNum, 1), none, zero, none, one},
		{f(-maxNum, 1), f(maxNum, 1), zero, none, none, f(-1, 1)},
		{f(1, maxDen), f(1, maxDen), f(1, maxDen/2), zero, none, one},
		{f(1, maxDen), half, f(maxDen/2+1, maxDen), f(1-maxDen/2, maxDen), none, f(1, maxDen/2)},
		{f(1, prime), half, none, none, none, f(2, prime)},
		{f(1, maxDen), f(2, 1), f(2*maxDen+1, maxDen), f(1-2*maxDen, maxDen), f(1, maxDen/2), none},
	} {
		for i, want := range []api.Frac{c.add, c.sub, c.mul, c.div} {
			o := operations()[i]
			if got, ok := o.apply(c.a, c.b); got != want || ok != (want != none) {
				t.Errorf("%s(%v, %v) = %v, %v, want %v", o.name, c.a, c.b, got, ok, want)
			}
		}
	}
}

func TestOperationsRefuseInvalidFractions(t *testing.T) {
	for _, o := range operations() {
		for _, a := range invalids() {
			for _, b := range slices.Concat(invalids(), []api.Frac{f(1, 1), f(0, 1), f(-1, 2)}) {
				if got, ok := o.apply(a, b); got != none || ok {
					t.Errorf("%s(%v, %v) = %v, %v", o.name, a, b, got, ok)
				}
				if got, ok := o.apply(b, a); got != none || ok {
					t.Errorf("%s(%v, %v) = %v, %v", o.name, b, a, got, ok)
				}
			}
		}
	}
}

func TestAddAndMulAreCommutative(t *testing.T) {
	eachPair(func(a, b api.Frac) {
		for _, o := range operations() {
			if o.name != "Add" && o.name != "Mul" {
				continue
			}
			left, ok1 := o.apply(a, b)
			right, ok2 := o.apply(b, a)
			if left != right || ok1 != ok2 {
				t.Errorf("%s of %v and %v depends on their order", o.name, a, b)
			}
		}
	})
}

// both applies f to the first two fractions and g to the result and the third one; false if one of them returns false.
func both(a, b, c api.Frac, f, g func(a, b api.Frac) (api.Frac, bool)) (api.Frac, bool) {
	first, ok := f(a, b)
	if !ok {
		return none, false
	}
	return g(first, c)
}

func TestAddAndMulAreAssociativeAndDistributive(t *testing.T) {
	all := slices.Concat(samples(40), []api.Frac{f(0, 1), f(1, 2), f(-1, 2), f(maxNum, 1), f(-maxNum, 1), f(1, maxDen)})
	found := 0
	for _, a := range all {
		for _, b := range all {
			for _, c := range all {
				for _, o := range []func(a, b api.Frac) (api.Frac, bool){frac.Add, frac.Mul} {
					left, ok1 := both(a, b, c, o, o)
					right, ok2 := both(b, c, a, o, o)
					if ok1 && ok2 && left != right {
						t.Errorf("%v, %v, %v: %v and %v", a, b, c, left, right)
					}
				}
				whole, ok1 := both(a, b, c, frac.Add, frac.Mul)
				x, ok2 := frac.Mul(a, c)
				y, ok3 := frac.Mul(b, c)
				parts, ok4 := frac.Add(x, y)
				if ok1 && ok2 && ok3 && ok4 {
					found++
					if whole != parts {
						t.Errorf("(%v + %v) * %v: %v and %v", a, b, c, whole, parts)
					}
				}
			}
		}
	}
	if found < 100 {
		t.Errorf("only %d cases have all results", found)
	}
}

func TestSubUndoesAddAndDivUndoesMul(t *testing.T) {
	eachPair(func(a, b api.Frac) {
		if sum, ok := frac.Add(a, b); ok {
			if got, ok := frac.Sub(sum, b); got != a || !ok {
				t.Errorf("%v + %v - %v = %v, %v", a, b, b, got, ok)
			}
		}
		if product, ok := frac.Mul(a, b); ok && b.N != 0 {
			if got, ok := frac.Div(product, b); got != a || !ok {
				t.Errorf("%v * %v / %v = %v, %v", a, b, b, got, ok)
			}
		}
	})
}

// P2.3

func TestCmpIsTheOrderOfValues(t *testing.T) {
	eachPair(func(a, b api.Frac) {
		x, y := new(big.Rat), new(big.Rat)
		if isValid(a) {
			x = value(a)
		}
		if isValid(b) {
			y = value(b)
		}
		got := frac.Cmp(a, b)
		if want := x.Cmp(y); got != want {
			t.Errorf("Cmp(%v, %v) = %d, want %d", a, b, got, want)
		}
		if isValid(a) && isValid(b) && (got == 0) != (a == b) {
			t.Errorf("Cmp(%v, %v) = %d", a, b, got)
		}
	})
}

func TestExamplesOfCmp(t *testing.T) {
	for _, c := range []struct {
		a, b api.Frac
		want int
	}{
		{f(1, 3), f(1, 2), -1},
		{f(-1, 3), f(-1, 2), 1},
		{f(-1, 2), f(1, 3), -1},
		{f(1, 2), f(1, 2), 0},
		{f(0, 1), f(1, maxDen), -1},
		{f(0, 1), f(-1, maxDen), 1},
		{f(maxNum, prime), f(maxNum-1, prime), 1},
		// These differ by less than 10^-29.
		{f(maxDen-2, maxDen-1), f(maxDen-1, maxDen), -1},
		{f(2-maxDen, maxDen-1), f(1-maxDen, maxDen), 1},
		// The products that decide are equal modulo 2^64.
		{f(maxNum, 1), f(maxNum, 5), 1},
		{f(-maxNum, 1), f(-maxNum, 5), -1},
		{f(-maxNum, 1), f(maxNum, 3), -1},
		// Those that are not valid count as 0.
		{none, f(0, 1), 0},
		{f(1, 2), f(2, 4), 1},
		{f(2, 4), f(-1, 2), 1},
		{f(2, 4), f(1, maxDen), -1},
		{f(1, 0), f(-1, -1), 0},
		{f(math.MinInt, 1), f(-1, maxDen), 1},
		{f(math.MaxInt, math.MinInt), f(1, maxDen), -1},
	} {
		if got := frac.Cmp(c.a, c.b); got != c.want {
			t.Errorf("Cmp(%v, %v) = %d, want %d", c.a, c.b, got, c.want)
		}
		if got := frac.Cmp(c.b, c.a); got != -c.want {
			t.Errorf("Cmp(%v, %v) = %d, want %d", c.b, c.a, got, -c.want)
		}
	}
}

// P2.4

func TestExamplesOfSum(t *testing.T) {
	third := f(1, 3)
	for _, c := range []struct {
		name string
		l    []api.Frac
		want api.Frac
		ok   bool
	}{
		{"nil", nil, f(0, 1), true},
		{"the empty list", []api.Frac{}, f(0, 1), true},
		{"one fraction", []api.Frac{f(-7, 5)}, f(-7, 5), true},
		{"three thirds", []api.Frac{third, third, third}, f(1, 1), true},
		{"a sum that is too large in between", []api.Frac{f(maxNum, 1), f(1, 1), f(-1, 1)}, none, false},
		{"the same in another order", []api.Frac{f(maxNum, 1), f(-1, 1), f(1, 1)}, f(maxNum, 1), true},
		{"a denominator that is too large in between", []api.Frac{f(1, prime), f(1, 2), f(-1, 2)}, none, false},
		{"the same from the right", []api.Frac{f(1, 2), f(-1, 2), f(1, prime)}, f(1, prime), true},
		{"a sum that is too large at the end", []api.Frac{f(1, 1), f(maxNum, 1)}, none, false},
		{"one that is not valid", []api.Frac{f(2, 4)}, none, false},
		{"one that is not valid at the end", []api.Frac{third, f(0, 0)}, none, false},
		{"one that is not valid, before others", []api.Frac{third, f(0, 2), third}, none, false},
	} {
		if got, ok := frac.Sum(c.l); got != c.want || ok != c.ok {
			t.Errorf("Sum of %s is %v, %v, want %v, %v", c.name, got, ok, c.want, c.ok)
		}
	}
}

func TestSumOfOneMoreIsAdd(t *testing.T) {
	ended := 0
	for length := 1; length <= 60; length++ {
		l := samples(length)
		for i := range l {
			// Small denominators and small numerators let about a half of the sums exist.
			l[i], _ = frac.Of(l[i].N>>3, i%6+1)
		}
		copied := slices.Clone(l)
		before, ok := api.Frac{N: 0, D: 1}, true
		for i, a := range l {
			if ok {
				before, ok = frac.Add(before, a)
			}
			if got, exists := frac.Sum(l[:i+1]); got != before || exists != ok {
				t.Errorf("Sum(%v) = %v, %v, want %v, %v", l[:i+1], got, exists, before, ok)
			}
		}
		if ok {
			ended++
		}
		if !slices.Equal(l, copied) {
			t.Errorf("Sum changed its argument")
		}
	}
	if ended < 10 || ended > 50 {
		t.Errorf("%d of 60 sums exist", ended)
	}
}

func TestSumOfManyFractions(t *testing.T) {
	l := make([]api.Frac, 5000)
	for i := range l {
		l[i] = f(1, (i+1)*(i+2))
	}
	// 1/(i(i+1)) is 1/i - 1/(i+1), so that the sums in between are small.
	if got, ok := frac.Sum(l); got != f(5000, 5001) || !ok {
		t.Errorf("Sum is %v, %v", got, ok)
	}
}

// P2.5

func factors() []int {
	all := []int{0, 1, 2, 3, 4, 9, 10, 97, 1000000, 3037000499, api.MaxInt / 2, api.MaxInt - 1, api.MaxInt, api.MaxInt + 1}
	return append(all, -1, -2, -api.MaxInt, maxDen, maxNum, math.MinInt, math.MinInt+1, math.MaxInt)
}

func checkFloor(t *testing.T, a api.Frac, k int) {
	t.Helper()
	want, exists := 0, false
	if isValid(a) && k >= 0 && k <= api.MaxInt {
		// Euclid's division by a positive number rounds down.
		floor := new(big.Int).Mul(exact(a.N), exact(k))
		floor.Div(floor, exact(a.D))
		if floor.CmpAbs(exact(maxNum)) <= 0 {
			want, exists = int(floor.Int64()), true
		}
	}
	if got, ok := frac.Floor(a, k); got != want || ok != exists {
		t.Errorf("Floor(%v, %d) = %d, %v, want %d, %v", a, k, got, ok, want, exists)
	}
}

func TestFloorRoundsDown(t *testing.T) {
	for _, a := range operands() {
		for _, k := range factors() {
			checkFloor(t, a, k)
		}
	}
	for n := -20; n <= 20; n++ {
		for d := 1; d <= 12; d++ {
			for k := range 15 {
				checkFloor(t, f(n, d), k)
			}
		}
	}
}

func TestFloorIsTheOnlyIntegerBelow(t *testing.T) {
	found := 0
	for _, a := range slices.Concat(valids(), samples(300)) {
		for _, k := range factors() {
			r, ok := frac.Floor(a, k)
			if !ok {
				continue
			}
			found++
			product := new(big.Rat).Mul(value(a), value(f(k, 1)))
			if value(f(r, 1)).Cmp(product) > 0 || value(f(r+1, 1)).Cmp(product) <= 0 {
				t.Errorf("Floor(%v, %d) = %d", a, k, r)
			}
		}
	}
	if found < 1000 {
		t.Errorf("only %d floors exist", found)
	}
}

func TestFloorAtItsBounds(t *testing.T) {
	for _, c := range []struct {
		a    api.Frac
		k    int
		want int
		ok   bool
	}{
		{f(maxNum, 1), 1, maxNum, true},
		{f(-maxNum, 1), 1, -maxNum, true},
		{f(maxNum, 3), 3, maxNum, true},
		{f(-maxNum, 3), 3, -maxNum, true},
		{f(maxNum, 1), 2, 0, false},
		{f(-maxNum, 1), 2, 0, false},
		{f(maxNum-1, 1), api.MaxInt, 0, false},
		{f(1-maxNum, 1), api.MaxInt, 0, false},
		{f(maxNum, prime), 0, 0, true},
		{f(-maxNum, prime), 0, 0, true},
		// MaxNum and a half is rounded down to MaxNum, but the opposite is rounded down to -MaxNum - 1.
		{f(3074457345618258603, 2), 3, maxNum, true},
		{f(-3074457345618258603, 2), 3, 0, false},
		{f(maxNum-1, 2), 2, maxNum - 1, true},
		{f(1-maxNum, 2), 2, 1 - maxNum, true},
		// The products of these numerators and factors need more than 100 bits.
		{f(4611686018376659357, 999999999989), api.MaxInt, maxNum - 1, true},
		{f(4611686018376659358, 999999999989), api.MaxInt, maxNum, true},
		{f(4611686018376659359, 999999999989), api.MaxInt, 0, false},
		{f(-4611686018376659357, 999999999989), api.MaxInt, -maxNum, true},
		{f(-4611686018376659358, 999999999989), api.MaxInt, 0, false},
	} {
		if got, ok := frac.Floor(c.a, c.k); got != c.want || ok != c.ok {
			t.Errorf("Floor(%v, %d) = %d, %v, want %d, %v", c.a, c.k, got, ok, c.want, c.ok)
		}
		checkFloor(t, c.a, c.k)
	}
}

func TestExamplesOfFloor(t *testing.T) {
	for _, c := range []struct {
		a    api.Frac
		k    int
		want int
		ok   bool
	}{
		{f(-1, 3), 10, -4, true},
		{f(1, 3), 10, 3, true},
		{f(-1, 3), 9, -3, true},
		{f(-1, 3), 0, 0, true},
		{f(-1, maxDen), 1, -1, true},
		{f(-1, maxDen), api.MaxInt, -1, true},
		{f(1, maxDen), api.MaxInt, 0, true},
		{f(0, 1), api.MaxInt, 0, true},
		{f(1, 1), api.MaxInt, api.MaxInt, true},
		{f(1, 1), api.MaxInt + 1, 0, false},
		{f(0, 1), -1, 0, false},
		{f(1, 2), math.MinInt, 0, false},
		{f(1, 2), math.MaxInt, 0, false},
		{f(4611686018427387904, 1), 1, 4611686018427387904, true},
		{f(4611686018427387904, 1), 2, 0, false},
		{none, 1, 0, false},
		{none, 0, 0, false},
		{f(2, 4), 4, 0, false},
		{f(math.MinInt, 1), 0, 0, false},
	} {
		if got, ok := frac.Floor(c.a, c.k); got != c.want || ok != c.ok {
			t.Errorf("Floor(%v, %d) = %d, %v, want %d, %v", c.a, c.k, got, ok, c.want, c.ok)
		}
	}
}

// P2.6

func TestTextIsNumeratorSlashDenominator(t *testing.T) {
	for _, a := range operands() {
		want := ""
		if isValid(a) {
			want = value(a).RatString()
		}
		if got := frac.Text(a); got != want {
			t.Errorf("Text(%v) = %q, want %q", a, got, want)
		}
	}
	for a, want := range map[api.Frac]string{
		f(-3, 2): "-3/2", f(3, 2): "3/2", f(7, 1): "7", f(-7, 1): "-7", f(0, 1): "0",
		f(-maxNum, 1): "-4611686018427387904", f(1, maxDen): "1/1000000000000000",
		f(2, 4): "", none: "", f(0, 2): "", f(7, -1): "", f(math.MinInt, 1): "",
	} {
		if got := frac.Text(a); got != want {
			t.Errorf("Text(%v) = %q, want %q", a, got, want)
		}
	}
}

func TestDifferentFractionsHaveDifferentTexts(t *testing.T) {
	seen := map[string]api.Frac{}
	for _, a := range slices.Concat(valids(), samples(1000)) {
		text := frac.Text(a)
		if text == "" {
			t.Errorf("Text(%v) is empty", a)
		}
		if other, ok := seen[text]; ok && other != a {
			t.Errorf("Text of %v and of %v is %q", a, other, text)
		}
		seen[text] = a
	}
}
