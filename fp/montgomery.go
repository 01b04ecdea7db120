package fp

import (
	"math/bits"

	"intaglio/api"
)

// Montgomery's form of a is 2^384 a modulo P: of two such forms a product
// modulo P needs no division, for what is to be left away at each limb is
// brought to a multiple of 2^64 by adding some P.

// fold is -1 / P modulo 2^64.
const fold = 0x89f3fffcfffcfffd

// square is 2^768 modulo P, Montgomery's form of 2^384.
var square = api.Fp{0xf4df1f341c341746, 0x0a76e6a609d104f1, 0x8de5476c4c95b6d5, 0x67eb88a9939d83c0, 0x9a793e85b519952d, 0x11988fe592cae3aa}

// lift tells Montgomery's form of a.
func lift(a api.Fp) api.Fp {
	return times(a, square)
}

// drop tells whose Montgomery's form a is.
func drop(a api.Fp) api.Fp {
	return times(a, Of(1))
}

// times tells a b / 2^384 modulo P; b is below P.
func times(a, b api.Fp) api.Fp {
	var t0, t1, t2, t3, t4, t5 uint64
	for _, k := range a {
		up, s0 := mulAdd(k, b[0], t0, 0)
		up, s1 := mulAdd(k, b[1], t1, up)
		up, s2 := mulAdd(k, b[2], t2, up)
		up, s3 := mulAdd(k, b[3], t3, up)
		up, s4 := mulAdd(k, b[4], t4, up)
		up, s5 := mulAdd(k, b[5], t5, up)
		// With m P added the least limb is 0, and is left away.
		m := s0 * fold
		over, _ := mulAdd(m, p0, s0, 0)
		over, t0 = mulAdd(m, p1, s1, over)
		over, t1 = mulAdd(m, p2, s2, over)
		over, t2 = mulAdd(m, p3, s3, over)
		over, t3 = mulAdd(m, p4, s4, over)
		over, t4 = mulAdd(m, p5, s5, over)
		// No carry: what is left is below 2 P, so below 2^384.
		t5 = up + over
	}
	return bring(api.Fp{t0, t1, t2, t3, t4, t5})
}

// mulAdd tells x y + p + q, which is below 2^128.
func mulAdd(x, y, p, q uint64) (high, low uint64) {
	high, low = bits.Mul64(x, y)
	low, carry := bits.Add64(low, p, 0)
	high += carry
	low, carry = bits.Add64(low, q, 0)
	return high + carry, low
}
