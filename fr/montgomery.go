package fr

import (
	"math/bits"

	"intaglio/api"
)

// Montgomery's form of a is 2^256 a modulo R: of two such forms a product
// modulo R needs no division, for what is to be left away at each limb is
// brought to a multiple of 2^64 by adding some R.

const limbBits = 64

// fold is -1 / R modulo 2^64.
const fold = 0xfffffffeffffffff

// square is 2^512 modulo R, Montgomery's form of 2^256.
var square = api.Fr{0xc999e990f3f29c6d, 0x2b6cedcb87925c23, 0x05d314967254398f, 0x0748d9d99f59ff11}

// lift tells Montgomery's form of a.
func lift(a api.Fr) api.Fr {
	return times(a, square)
}

// drop tells whose Montgomery's form a is.
func drop(a api.Fr) api.Fr {
	return times(a, Of(1))
}

// times tells a b / 2^256 modulo R.
func times(a, b api.Fr) api.Fr {
	var t0, t1, t2, t3 uint64
	for _, k := range a {
		up, s0 := mulAdd(k, b[0], t0, 0)
		up, s1 := mulAdd(k, b[1], t1, up)
		up, s2 := mulAdd(k, b[2], t2, up)
		up, s3 := mulAdd(k, b[3], t3, up)
		// With m R added the least limb is 0, and is left away.
		m := s0 * fold
		over, _ := mulAdd(m, r0, s0, 0)
		over, t0 = mulAdd(m, r1, s1, over)
		over, t1 = mulAdd(m, r2, s2, over)
		over, t2 = mulAdd(m, r3, s3, over)
		// No carry: what is left is below 2 R, so below 2^256.
		t3 = up + over
	}
	return bring(api.Fr{t0, t1, t2, t3})
}

// mulAdd tells x y + p + q, which is below 2^128.
func mulAdd(x, y, p, q uint64) (high, low uint64) {
	high, low = bits.Mul64(x, y)
	low, carry := bits.Add64(low, p, 0)
	high += carry
	low, carry = bits.Add64(low, q, 0)
	return high + carry, low
}
