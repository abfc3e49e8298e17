// Package num is layer 1 (bounded integers): see shared/doc/01-num.md.
package num

import (
	"strconv"

	"simulator/api"
)

// In reports whether n is from -MaxInt to MaxInt.
func In(n int) bool { return n >= -api.MaxInt && n <= api.MaxInt }

// Clip returns the number from -MaxInt to MaxInt that is nearest to n.
func Clip(n int) int { return max(-api.MaxInt, min(n, api.MaxInt)) }

// Add returns a + b, clipped.
func Add(a, b int) int { return Clip(Clip(a) + Clip(b)) }

// Mul returns a times b, clipped.
func Mul(a, b int) int {
	a, b = Clip(a), Clip(b)
	size, other := magnitude(a), magnitude(b)
	// The division asks whether the product is in bounds without computing it, as it may not fit an int.
	if size == 0 || other <= api.MaxInt/size {
		return a * b
	}
	if negative(a, b) {
		return -api.MaxInt
	}
	return api.MaxInt
}

// Div returns a divided by b, rounded down.
func Div(a, b int) int {
	a, b = Clip(a), Clip(b)
	if b == 0 {
		return 0
	}
	// Go rounds towards 0, which is up for a negative quotient.
	if negative(a, b) && a%b != 0 {
		return a/b - 1
	}
	return a / b
}

// Mod returns the rest of a divided by b.
func Mod(a, b int) int {
	a, b = Clip(a), Clip(b)
	// The product may be beyond the bounds, up to twice as far from 0, so Mul would be wrong here.
	return a - b*Div(a, b)
}

// Gcd returns the greatest common divisor.
func Gcd(a, b int) int {
	a, b = magnitude(Clip(a)), magnitude(Clip(b))
	for b != 0 {
		a, b = b, a%b
	}
	return a
}

// Root returns the square root, rounded down.
func Root(n int) int {
	if n < 0 {
		return 0
	}
	root := 0
	// The root of the greatest int has 32 bits; each one is set if the square does not become greater than n.
	for bit := 1 << 31; bit > 0; bit >>= 1 {
		next := root + bit
		// The division stands for next*next <= n, as the square may not fit an int.
		if next <= n/next {
			root = next
		}
	}
	return root
}

// Text returns n in decimal.
func Text(n int) string { return strconv.Itoa(n) }

// Parse returns the number with a text.
func Parse(s string) (int, bool) {
	n, err := strconv.Atoi(s)
	// Atoi also accepts a plus sign, leading zeros and -0, which Text never writes.
	if err != nil || !In(n) || Text(n) != s {
		return 0, false
	}
	return n, true
}

// magnitude returns the absolute value of a number in bounds.
func magnitude(n int) int { return max(n, -n) }

// negative reports whether exactly one of both operands is below 0.
func negative(a, b int) bool { return (a < 0) != (b < 0) }
