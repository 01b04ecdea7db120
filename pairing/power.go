package pairing

import (
	"intaglio/api"
	"intaglio/fp12"
)

// turn is (1 + u)^((P - 1) / 6): w^P is w by it.
var turn = api.Fp2{
	{0x8d0775ed92235fb8, 0xf67ea53d63e7813d, 0x7b2443d784bab9c4, 0x0fd603fd3cbd5f4f, 0xc231beb4202c0d1f, 0x1904d3bf02bb0667},
	{0x2cf78a126ddc4af3, 0x282d5ac14d6c7ec2, 0xec0c8ec971f63c5f, 0x54a14787b6c7b36f, 0x88e9e902231f9fb8, 0x00fc3e2b36c4e032},
}

// power tells a^((P^12 - 1) / R), of an a that is not 0.
func power(a api.Fp12) api.Fp12 {
	// P^12 - 1 is (P^6 - 1) (P^2 + 1) (P^4 - P^2 + 1), and R divides the last.
	return hard(easy(a))
}

// easy tells a^((P^6 - 1) (P^2 + 1)), of an a that is not 0.
func easy(a api.Fp12) api.Fp12 {
	back, _ := fp12.Inv(a)
	a = fp12.Mul(fp12.Conj(a), back)
	return fp12.Mul(toP(toP(a)), a)
}

// hard tells a^((P^4 - P^2 + 1) / R), of an a whose inverse is its Conj, as
// that of each answer of easy.
func hard(a api.Fp12) api.Fp12 {
	// With x for -loop, P is (x - 1)^2 R / 3 + x, so that this exponent is
	// (x - 1)^2 / 3 (x + P) (x^2 + P^2 - 1) + 1: short powers do.
	b := to(to(a, (loop+1)/3), loop+1)
	c := fp12.Mul(toP(b), fp12.Conj(to(b, loop)))
	d := fp12.Mul(to(to(c, loop), loop), fp12.Mul(toP(toP(c)), fp12.Conj(c)))
	return fp12.Mul(d, a)
}

// to tells a^e.
func to(a api.Fp12, e uint64) api.Fp12 {
	return fp12.Pow(a, []uint64{e})
}

// toP tells a^P.
func toP(a api.Fp12) api.Fp12 {
	// A sum's P-th power is the sum of the P-th powers: in place of each pair
	// at a power of w stands its own, in place of w w^P.
	out := api.Fp12{}
	for i := 5; i >= 0; i-- {
		out = fp12.Add(fp12.Mul(out, api.Fp12{{}, {turn}}), pairToP(a[i%2][i/2]))
	}
	return out
}

// pairToP tells a^P: u^P is -u, and parts of a pair stay.
func pairToP(a api.Fp2) api.Fp12 {
	return fp12.Sub(api.Fp12{{{a[0]}}}, api.Fp12{{{{}, a[1]}}})
}
