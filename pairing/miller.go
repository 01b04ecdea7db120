package pairing

import (
	"intaglio/api"
	"intaglio/fp12"
)

const limbBits = 64

// loop is -x, x being the number that P and R are made of: R is
// x^4 - x^2 + 1, and it divides P - x. So short a loop does for a pairing
// because P times a point of q's group is x times it.
const loop uint64 = 0xd201000000010000

// place is one of the curve y y = x x x + 4 over sixes of pairs.
type place struct{ x, y api.Fp12 }

// placeOf1 tells the place of p, which is not Inf.
func placeOf1(p api.G1) place {
	return place{api.Fp12{{{p.X}}}, api.Fp12{{{p.Y}}}}
}

// placeOf2 tells the place of q, which is not Inf.
func placeOf2(q api.G2) place {
	// w w w w w w is 1 + u: of y y = x x x + 4 (1 + u) it leaves the 4.
	part, _ := fp12.Inv(api.Fp12{{}, {{{1}}}})
	parts := fp12.Mul(part, part)
	return place{fp12.Mul(api.Fp12{{q.X}}, parts), fp12.Mul(api.Fp12{{q.Y}}, fp12.Mul(parts, part))}
}

// miller tells, but for a number of which the power makes 1, the value at p of
// the function that is 0 in q, loop times over, and has its poles in loop
// times q and in Inf alone.
func miller(p, q place) api.Fp12 {
	// The lines that go straight up are left out: their values at p are sixes
	// without w, and of such the power makes 1.
	value, at := fp12.One(), q
	left := limbBits - 1
next:
	if left > 0 {
		left--
		s := slope(at, at)
		value = fp12.Mul(fp12.Mul(value, value), line(at, s, p))
		at = sum(at, at, s)
		if loop>>left&1 == 1 {
			s = slope(at, q)
			value = fp12.Mul(value, line(at, s, p))
			at = sum(at, q, s)
		}
		goto next
	}
	return value
}

// slope tells that of the line through a and b, or of the one that touches in
// both.
func slope(a, b place) api.Fp12 {
	rise, run := fp12.Sub(b.y, a.y), fp12.Sub(b.x, a.x)
	if a == b {
		xx := fp12.Mul(a.x, a.x)
		rise, run = fp12.Add(fp12.Add(xx, xx), xx), fp12.Add(a.y, a.y)
	}
	// The run is not 0: q's order is R, and the loop goes to none of its
	// multiples near R.
	part, _ := fp12.Inv(run)
	return fp12.Mul(rise, part)
}

// line tells the value at p of the line through a with the slope s.
func line(a place, s api.Fp12, p place) api.Fp12 {
	return fp12.Sub(fp12.Sub(p.y, a.y), fp12.Mul(s, fp12.Sub(p.x, a.x)))
}

// sum tells a + b, s being the slope of their line.
func sum(a, b place, s api.Fp12) place {
	x := fp12.Sub(fp12.Sub(fp12.Mul(s, s), a.x), b.x)
	return place{x, fp12.Sub(fp12.Mul(s, fp12.Sub(a.x, x)), a.y)}
}
