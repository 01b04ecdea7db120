// Package limb: wide numbers: see doc/01-limb.md.
//
// A wide number is a list of limbs of 64 bits, the least first; noughts on
// top do not count.
package limb

import (
	"math/bits"

	"intaglio/api"
)

const limbBits = 64

// Compare tells -1, 0 or 1: a is below b, is b, is above b.
func Compare(a, b []uint64) int {
	a, b = trim(a), trim(b)
	if len(a) != len(b) {
		return order(uint64(len(a)), uint64(len(b)))
	}
	i := len(a)
next:
	if i == 0 {
		return 0
	}
	i--
	if a[i] == b[i] {
		goto next
	}
	return order(a[i], b[i])
}

// Add tells a + b.
func Add(a, b []uint64) []uint64 {
	a, b = trim(a), trim(b)
	if len(a) < len(b) {
		a, b = b, a
	}
	sum := make([]uint64, len(a)+1)
	carry := uint64(0)
	i := 0
next:
	if i < len(a) {
		sum[i], carry = bits.Add64(a[i], limbAt(b, i), carry)
		i++
		goto next
	}
	sum[len(a)] = carry
	return trim(sum)
}

// Sub tells a - b; api.ErrArg: b is greater.
func Sub(a, b []uint64) ([]uint64, api.Errno) {
	a, b = trim(a), trim(b)
	if Compare(a, b) < 0 {
		return nil, api.ErrArg
	}
	diff := make([]uint64, len(a))
	copy(diff, a)
	lessen(diff, b)
	return trim(diff), api.OK
}

// Mul tells a b.
func Mul(a, b []uint64) []uint64 {
	a, b = trim(a), trim(b)
	product := make([]uint64, len(a)+len(b))
	i := 0
next:
	if i < len(b) {
		addTimes(product[i:], a, b[i])
		i++
		goto next
	}
	return trim(product)
}

// Rest tells what is left of a by m; api.ErrZero: m is 0.
func Rest(a, m []uint64) ([]uint64, api.Errno) {
	a, m = trim(a), trim(m)
	if len(m) == 0 {
		return nil, api.ErrZero
	}
	// Twice a rest may need a bit more than m has limbs for.
	rest := make([]uint64, len(m)+1)
	// A number of fewer limbs than m is below m already, so that many of the
	// top limbs of a need no division.
	i := len(a) - min(len(a), len(m)-1)
	copy(rest, a[i:])
next:
	if i > 0 {
		i--
		bringDown(rest, a[i], m)
		goto next
	}
	return trim(rest), api.OK
}

// trim leaves away the noughts on top; what it tells shares a's memory.
func trim(a []uint64) []uint64 {
	n := len(a)
next:
	if n > 0 && a[n-1] == 0 {
		n--
		goto next
	}
	return a[:n]
}

// limbAt tells the i-th limb, also above the top one, where all are 0.
func limbAt(a []uint64, i int) uint64 {
	if i < len(a) {
		return a[i]
	}
	return 0
}

func order(x, y uint64) int {
	if x < y {
		return -1
	}
	if x > y {
		return 1
	}
	return 0
}

// lessen takes b from a, in a's place; b is not above a, and not longer.
func lessen(a, b []uint64) {
	borrow := uint64(0)
	i := 0
next:
	if i < len(a) {
		a[i], borrow = bits.Sub64(a[i], limbAt(b, i), borrow)
		i++
		goto next
	}
}

// addTimes adds k a to sum, in sum's place. The limb of sum above a's limbs
// must still be 0: it takes the last carry.
func addTimes(sum, a []uint64, k uint64) {
	carry := uint64(0)
	i := 0
next:
	if i < len(a) {
		high, low := bits.Mul64(a[i], k)
		low, over := bits.Add64(low, sum[i], 0)
		high += over // no wrap: k a[i] + sum[i] + carry is below 2^128
		sum[i], over = bits.Add64(low, carry, 0)
		carry = high + over
		i++
		goto next
	}
	sum[len(a)] = carry
}

// bringDown puts one more limb below rest, and leaves what is left by m. The
// rest is below m, ahead and after, and has one limb more than m.
func bringDown(rest []uint64, low uint64, m []uint64) {
	left := limbBits
next:
	if left > 0 {
		left--
		double(rest, low>>left&1)
		if Compare(rest, m) >= 0 {
			lessen(rest, m)
		}
		goto next
	}
}

// double makes a 2 a + bit, in a's place; a's top bit is 0.
func double(a []uint64, bit uint64) {
	i := 0
next:
	if i < len(a) {
		a[i], bit = bits.Add64(a[i], a[i], bit)
		i++
		goto next
	}
}
