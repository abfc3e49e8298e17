package frac

import (
	"cmp"
	"math/bits"
)

// wide is an integer of 128 bits: high times 2^64 plus low. The products of numerators and denominators need so many.
type wide struct {
	high int64
	low  uint64
}

// times returns n times d, for d from 0 on.
func times(n, d int) wide {
	high, low := bits.Mul64(uint64(n), uint64(d))
	if n < 0 {
		// uint64(n) is greater than n by 2^64.
		high -= uint64(d)
	}
	return wide{int64(high), low}
}

// plus returns the sum, which must fit 128 bits.
func (a wide) plus(b wide) wide {
	low, carry := bits.Add64(a.low, b.low, 0)
	return wide{a.high + b.high + int64(carry), low}
}

// compare returns -1, 0 or 1 if a is less than, equal to, or greater than b.
func (a wide) compare(b wide) int {
	return cmp.Or(cmp.Compare(a.high, b.high), cmp.Compare(a.low, b.low))
}

// magnitude returns the absolute value: high times 2^64 plus low.
func (a wide) magnitude() (high, low uint64) {
	if a.high >= 0 {
		return uint64(a.high), a.low
	}
	low, borrow := bits.Sub64(0, a.low, 0)
	high, _ = bits.Sub64(0, uint64(a.high), borrow)
	return high, low
}
