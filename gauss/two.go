package gauss

import "intaglio/api"

const twoEnd = 1_000_000

// Two tells the a, b with 0 < a <= b and a a + b b = p; api.ErrArg: p is no
// prime of 1 modulo 4 below 1,000,000.
func Two(p int) (a, b int, e api.Errno) {
	if p < 0 || p >= twoEnd || p%4 != 1 || !prime(p) {
		return 0, 0, api.ErrArg
	}
	// p divides x x + 1 = (x + i) (x - i) and neither of the two: what it
	// shares with one of them has the Norm p. Neither part is 0: p is no square.
	g := Gcd(complex(float64(p), 0), complex(float64(rootOfMinusOne(p)), 1))
	a, b = int(real(g)), int(imag(g))
	return min(a, b), max(a, b), api.OK
}

// prime tells whether the odd p is a prime.
func prime(p int) bool {
	for d := 3; d*d <= p; d += 2 {
		if p%d == 0 {
			return false
		}
	}
	return p > 1
}

// rootOfMinusOne tells an x with x x = -1 modulo p, a prime of 1 modulo 4.
func rootOfMinusOne(p int) int {
	for c := range p {
		// Of a c that is no square modulo p, the power by (p - 1) / 2 is -1:
		// half of all are none.
		if x := power(c, (p-1)/4, p); x*x%p == p-1 {
			return x
		}
	}
	return 0
}

// power tells c^n modulo p.
func power(c, n, p int) int {
	out := 1
	for ; n > 0; n /= 2 {
		if n%2 == 1 {
			out = out * c % p
		}
		c = c * c % p
	}
	return out
}
