package num_test

import (
	"math"
	"math/big"
	"strings"
	"testing"

	"simulator/api"
	"simulator/num"
)

const most = api.MaxInt

// operands has small numbers, both sides of each bound and of its half and root, and the ends of int.
func operands() []int {
	above := []int{
		0, 1, 2, 3, 4, 6, 7, 12, 18, 97, 360,
		999999, 1000000, 1000001, 1 << 31, 1<<32 + 1, 3037000499, 3037000500,
		most/2 - 1, most / 2, most/2 + 1, 600000000000, 700000000000, 999999999989,
		most - 1, most, most + 1, most + 7, 2 * most, 1 << 62, math.MaxInt - 1, math.MaxInt,
	}
	all := []int{math.MinInt, math.MinInt + 1}
	for _, n := range above {
		all = append(all, n, -n)
	}
	return all
}

func eachPair(check func(a, b int)) {
	for _, a := range operands() {
		for _, b := range operands() {
			check(a, b)
		}
	}
}

// clipped is the definition of clipping, for numbers of any size.
func clipped(n *big.Int) int {
	if n.Cmp(big.NewInt(most)) > 0 {
		return most
	}
	if n.Cmp(big.NewInt(-most)) < 0 {
		return -most
	}
	return int(n.Int64())
}

func exact(n int) *big.Int { return big.NewInt(int64(n)) }

func clippedExact(n int) *big.Int { return exact(clipped(exact(n))) }

// P1.1

func TestInKnowsTheBounds(t *testing.T) {
	for _, n := range []int{0, 1, -1, most - 1, most, -most + 1, -most} {
		if !num.In(n) {
			t.Errorf("In(%d) is false", n)
		}
	}
	for _, n := range []int{most + 1, -most - 1, 2 * most, math.MaxInt, math.MinInt} {
		if num.In(n) {
			t.Errorf("In(%d) is true", n)
		}
	}
}

func TestClipReturnsTheNearestNumber(t *testing.T) {
	for _, n := range operands() {
		if got, want := num.Clip(n), clipped(exact(n)); got != want {
			t.Errorf("Clip(%d) = %d, want %d", n, got, want)
		}
		if num.In(n) && num.Clip(n) != n {
			t.Errorf("Clip changes %d, which is in bounds", n)
		}
	}
}

func TestResultsAreInBounds(t *testing.T) {
	eachPair(func(a, b int) {
		for name, n := range map[string]int{
			"Clip": num.Clip(a), "Add": num.Add(a, b), "Mul": num.Mul(a, b),
			"Div": num.Div(a, b), "Mod": num.Mod(a, b), "Gcd": num.Gcd(a, b),
		} {
			if n < -most || n > most {
				t.Errorf("%s of %d and %d is %d", name, a, b, n)
			}
		}
	})
	for _, n := range operands() {
		if got, ok := num.Parse(exact(n).String()); got < -most || got > most {
			t.Errorf("Parse of %d is %d, %v", n, got, ok)
		}
	}
}

// P1.2

func TestAddIsTheClippedSum(t *testing.T) {
	eachPair(func(a, b int) {
		want := clipped(new(big.Int).Add(clippedExact(a), clippedExact(b)))
		if got := num.Add(a, b); got != want {
			t.Errorf("Add(%d, %d) = %d, want %d", a, b, got, want)
		}
	})
}

func TestMulIsTheClippedProduct(t *testing.T) {
	eachPair(func(a, b int) {
		want := clipped(new(big.Int).Mul(clippedExact(a), clippedExact(b)))
		if got := num.Mul(a, b); got != want {
			t.Errorf("Mul(%d, %d) = %d, want %d", a, b, got, want)
		}
	})
}

func TestExamplesOfArithmetic(t *testing.T) {
	for _, c := range []struct {
		name      string
		got, want int
	}{
		{"Add(7, -10)", num.Add(7, -10), -3},
		{"Add of two large numbers", num.Add(900000000000, 900000000000), most},
		{"Add clips its operands first", num.Add(2*most, -most), 0},
		{"Mul(-3, 4)", num.Mul(-3, 4), -12},
		{"Mul of opposite bounds", num.Mul(-most, most), -most},
		{"Mul of the lower bound by itself", num.Mul(-most, -most), most},
		{"Mul whose wrapped product would be 0", num.Mul(1<<32, 1<<32), most},
		{"Mul just in bounds", num.Mul(1000001, 999999), 999999999999},
		{"Mul just beyond them", num.Mul(1000001, 1000000), most},
		{"Mul just below them", num.Mul(-1000001, 1000000), -most},
	} {
		if c.got != c.want {
			t.Errorf("%s is %d, want %d", c.name, c.got, c.want)
		}
	}
}

// P1.3

// floor returns the greatest integer that is not greater than a / b, for b other than 0.
func floor(a, b *big.Int) *big.Int {
	quotient, rest := new(big.Int).QuoRem(a, b, new(big.Int))
	if rest.Sign() != 0 && rest.Sign() != b.Sign() {
		quotient.Sub(quotient, big.NewInt(1))
	}
	return quotient
}

func TestDivRoundsDown(t *testing.T) {
	eachPair(func(a, b int) {
		want := 0
		if b != 0 {
			want = clipped(floor(clippedExact(a), clippedExact(b)))
		}
		if got := num.Div(a, b); got != want {
			t.Errorf("Div(%d, %d) = %d, want %d", a, b, got, want)
		}
	})
}

func TestModIsTheRestOfDiv(t *testing.T) {
	eachPair(func(a, b int) {
		got, x, y := num.Mod(a, b), num.Clip(a), num.Clip(b)
		if want := x - y*num.Div(a, b); got != want {
			t.Errorf("Mod(%d, %d) = %d, want %d", a, b, got, want)
		}
		if y > 0 && (got < 0 || got >= y) || y < 0 && (got > 0 || got <= y) {
			t.Errorf("Mod(%d, %d) = %d is not between 0 and the divisor", a, b, got)
		}
	})
}

func TestExamplesOfDivision(t *testing.T) {
	for _, c := range []struct{ a, b, quotient, rest int }{
		{7, 2, 3, 1},
		{-7, 2, -4, 1},
		{7, -2, -4, -1},
		{-7, -2, 3, -1},
		{-6, 2, -3, 0},
		{6, -2, -3, 0},
		{0, -5, 0, 0},
		{1, -5, -1, -4},
		{-1, 5, -1, 4},
		{-1, most, -1, most - 1},
		{1, -most, -1, -most + 1},
		{5, 0, 0, 5},
		{-5, 0, 0, -5},
		{0, 0, 0, 0},
		{2 * most, 0, 0, most},
		{math.MinInt, 0, 0, -most},
		{math.MinInt, -1, most, 0},
		{math.MaxInt, math.MinInt, -1, 0},
		// b times Div is -1400000000000 here, which is not in bounds.
		{-most, 700000000000, -2, 400000000000},
		{most, -700000000000, -2, -400000000000},
	} {
		if n := num.Div(c.a, c.b); n != c.quotient {
			t.Errorf("Div(%d, %d) = %d, want %d", c.a, c.b, n, c.quotient)
		}
		if n := num.Mod(c.a, c.b); n != c.rest {
			t.Errorf("Mod(%d, %d) = %d, want %d", c.a, c.b, n, c.rest)
		}
	}
}

// P1.4

func TestGcdIsTheGreatestCommonDivisor(t *testing.T) {
	eachPair(func(a, b int) {
		x, y := clippedExact(a), clippedExact(b)
		want := new(big.Int).GCD(nil, nil, x.Abs(x), y.Abs(y))
		if got := num.Gcd(a, b); got != clipped(want) {
			t.Errorf("Gcd(%d, %d) = %d, want %d", a, b, got, want)
		}
	})
}

func TestEveryCommonDivisorDividesGcd(t *testing.T) {
	for a := -40; a <= 40; a++ {
		for b := -40; b <= 40; b++ {
			if a == 0 && b == 0 {
				continue
			}
			g := num.Gcd(a, b)
			if g < 1 || a%g != 0 || b%g != 0 {
				t.Fatalf("Gcd(%d, %d) = %d does not divide both", a, b, g)
			}
			for d := 1; d <= 40; d++ {
				if a%d == 0 && b%d == 0 && g%d != 0 {
					t.Errorf("%d divides %d and %d, but not their Gcd %d", d, a, b, g)
				}
			}
		}
	}
}

func TestExamplesOfGcd(t *testing.T) {
	for _, c := range []struct{ a, b, want int }{
		{12, -18, 6}, {-12, -18, 6}, {18, 12, 6}, {0, 0, 0}, {0, -9, 9}, {9, 0, 9}, {1, most, 1},
		{most, -most, most}, {math.MinInt, 0, most}, {0, math.MaxInt, most}, {math.MinInt, 3 * 1024, 1024},
	} {
		if n := num.Gcd(c.a, c.b); n != c.want {
			t.Errorf("Gcd(%d, %d) = %d, want %d", c.a, c.b, n, c.want)
		}
	}
}

// P1.5

func checkRoot(t *testing.T, n int) {
	t.Helper()
	r := num.Root(n)
	if r < 0 {
		t.Fatalf("Root(%d) = %d is below 0", n, r)
	}
	low, high := exact(r), exact(r+1)
	if low.Mul(low, low).Cmp(exact(n)) > 0 || high.Mul(high, high).Cmp(exact(n)) <= 0 {
		t.Errorf("Root(%d) = %d", n, r)
	}
}

func TestRootIsTheGreatestWhoseSquareIsNotGreater(t *testing.T) {
	for n := 0; n <= 2000; n++ {
		checkRoot(t, n)
	}
	for _, n := range operands() {
		if n >= 0 {
			checkRoot(t, n)
		}
	}
	for _, r := range []int{1 << 16, 1000000, 1<<31 - 1, 1 << 31, 1<<31 + 1, 3037000498, 3037000499} {
		checkRoot(t, r*r-1)
		checkRoot(t, r*r)
		checkRoot(t, r*r+1)
	}
}

func TestRootDoesNotClip(t *testing.T) {
	for n, want := range map[int]int{
		99: 9, 100: 10, most: 1000000, 4 * most: 2000000, 1 << 62: 1 << 31, math.MaxInt: 3037000499,
		3037000499 * 3037000499: 3037000499, 3037000499*3037000499 - 1: 3037000498,
	} {
		if r := num.Root(n); r != want {
			t.Errorf("Root(%d) = %d, want %d", n, r, want)
		}
	}
}

func TestRootBelowZeroIsZero(t *testing.T) {
	for _, n := range []int{-1, -4, -100, -most, math.MinInt + 1, math.MinInt} {
		if r := num.Root(n); r != 0 {
			t.Errorf("Root(%d) = %d", n, r)
		}
	}
}

// P1.6

func TestTextIsDecimal(t *testing.T) {
	for _, n := range operands() {
		if got, want := num.Text(n), exact(n).String(); got != want {
			t.Errorf("Text(%d) = %q, want %q", n, got, want)
		}
	}
	for n, want := range map[int]string{
		0: "0", 7: "7", -40: "-40", 1203: "1203", most + 1: "1000000000001",
		math.MaxInt: "9223372036854775807", math.MinInt: "-9223372036854775808",
	} {
		if got := num.Text(n); got != want {
			t.Errorf("Text(%d) = %q, want %q", n, got, want)
		}
	}
}

func TestParseReadsWhatTextWrites(t *testing.T) {
	for n := -1100; n <= 1100; n++ {
		checkParse(t, n)
	}
	for _, n := range operands() {
		checkParse(t, n)
	}
}

// checkParse expects the text of n to be accepted exactly if n is in bounds.
func checkParse(t *testing.T, n int) {
	t.Helper()
	want, in := n, n >= -most && n <= most
	if !in {
		want = 0
	}
	if got, ok := num.Parse(num.Text(n)); got != want || ok != in {
		t.Errorf("Parse of the text of %d is %d, %v", n, got, ok)
	}
}

// Every text of up to four bytes of this alphabet is either refused or the text of its number.
func TestParseAcceptsOnlyTexts(t *testing.T) {
	const alphabet = "019-+ _x."
	texts := []string{""}
	begin := 0
	for range 4 {
		end := len(texts)
		for _, s := range texts[begin:end] {
			for _, c := range alphabet {
				texts = append(texts, s+string(c))
			}
		}
		begin = end
	}
	for _, s := range texts {
		n, ok := num.Parse(s)
		if want := isText(s); ok != want {
			t.Errorf("Parse(%q) = %d, %v", s, n, ok)
		}
		if ok && num.Text(n) != s || !ok && n != 0 {
			t.Errorf("Parse(%q) = %d, %v", s, n, ok)
		}
	}
}

// isText is the definition of Text as a rule for texts: digits, no needless zero, a minus sign for negative numbers.
func isText(s string) bool {
	digits := strings.TrimPrefix(s, "-")
	if digits == "" || strings.Trim(digits, "0123456789") != "" {
		return false
	}
	return digits[0] != '0' || s == "0"
}

func TestParseRefuses(t *testing.T) {
	for _, s := range []string{
		"", "-", "+", "+4", "-+4", "--4", "04", "00", "-04", "-0", "+0", " 4", "4 ", "4\n", "\x004", "4\x00",
		"1_000", "0x10", "1e3", "4.0", "4-", "four", "\u0664", "\xff", "\u22124",
		"1000000000001", "-1000000000001", "9223372036854775807", "-9223372036854775808",
		"9223372036854775808", "18446744073709551616", "18446744073709551617", "-18446744073709551617",
		strings.Repeat("9", 400), strings.Repeat("0", 400) + "7", "-" + strings.Repeat("1", 4000),
	} {
		if n, ok := num.Parse(s); n != 0 || ok {
			t.Errorf("Parse(%q) = %d, %v", s, n, ok)
		}
	}
}
