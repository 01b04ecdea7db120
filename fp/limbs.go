package fp

import (
	"math/bits"

	"intaglio/api"
)

const limbBits = 64

func prime() api.Fp {
	return api.Fp{p0, p1, p2, p3, p4, p5}
}

// plus tells a + b modulo 2^384.
func plus(a, b api.Fp) api.Fp {
	s0, carry := bits.Add64(a[0], b[0], 0)
	s1, carry := bits.Add64(a[1], b[1], carry)
	s2, carry := bits.Add64(a[2], b[2], carry)
	s3, carry := bits.Add64(a[3], b[3], carry)
	s4, carry := bits.Add64(a[4], b[4], carry)
	s5, _ := bits.Add64(a[5], b[5], carry)
	return api.Fp{s0, s1, s2, s3, s4, s5}
}

// less tells a - b modulo 2^384, and 1 where a is below b.
func less(a, b api.Fp) (api.Fp, uint64) {
	d0, borrow := bits.Sub64(a[0], b[0], 0)
	d1, borrow := bits.Sub64(a[1], b[1], borrow)
	d2, borrow := bits.Sub64(a[2], b[2], borrow)
	d3, borrow := bits.Sub64(a[3], b[3], borrow)
	d4, borrow := bits.Sub64(a[4], b[4], borrow)
	d5, borrow := bits.Sub64(a[5], b[5], borrow)
	return api.Fp{d0, d1, d2, d3, d4, d5}, borrow
}

// bring tells a modulo P, of an a below 2 P.
func bring(a api.Fp) api.Fp {
	if diff, below := less(a, prime()); below == 0 {
		return diff
	}
	return a
}
