package g2

import (
	"intaglio/api"
	"intaglio/fp2"
)

// jacobi is a point in Jacobi's coordinates: X is x / (z z), Y is
// y / (z z z), and where z is 0 it is Inf. Of such points sums need no
// division, so that one alone, in drop, does for a whole call.
type jacobi struct{ x, y, z api.Fp2 }

// lift tells Jacobi's coordinates of p.
func lift(p api.G2) jacobi {
	if p.Inf {
		return jacobi{}
	}
	return jacobi{p.X, p.Y, api.Fp2{{1}}}
}

// drop tells whose Jacobi's coordinates a has.
func drop(a jacobi) api.G2 {
	part, e := fp2.Inv(a.z)
	if e != api.OK {
		return api.G2{Inf: true}
	}
	parts := square(part)
	return api.G2{X: fp2.Mul(a.x, parts), Y: fp2.Mul(a.y, fp2.Mul(parts, part))}
}

func isInf(a jacobi) bool {
	return a.z == api.Fp2{}
}

// twice tells a + a.
func twice(a jacobi) jacobi {
	// The line that touches the curve in a goes up by 3 x x on 2 y z. Of Inf
	// z stays 0.
	xx, yy := square(a.x), square(a.y)
	rise := fp2.Add(double(xx), xx)
	reach := double(double(fp2.Mul(a.x, yy)))
	x := fp2.Sub(square(rise), double(reach))
	fall := double(double(double(square(yy))))
	y := fp2.Sub(fp2.Mul(rise, fp2.Sub(reach, x)), fall)
	return jacobi{x, y, double(fp2.Mul(a.y, a.z))}
}

// plus tells a + q.
func plus(a jacobi, q api.G2) jacobi {
	if q.Inf {
		return a
	}
	if isInf(a) {
		return lift(q)
	}
	zz := square(a.z)
	run := fp2.Sub(fp2.Mul(q.X, zz), a.x)
	rise := fp2.Sub(fp2.Mul(q.Y, fp2.Mul(zz, a.z)), a.y)
	if run != (api.Fp2{}) {
		return across(a, run, rise)
	}
	if rise != (api.Fp2{}) {
		return jacobi{} // one is the negative of the other
	}
	return twice(a)
}

// across tells a plus the point to which the line from a goes up by rise on
// run z; run is not 0.
func across(a jacobi, run, rise api.Fp2) jacobi {
	runs := square(run)
	cube := fp2.Mul(runs, run)
	reach := fp2.Mul(a.x, runs)
	x := fp2.Sub(fp2.Sub(square(rise), cube), double(reach))
	y := fp2.Sub(fp2.Mul(rise, fp2.Sub(reach, x)), fp2.Mul(a.y, cube))
	return jacobi{x, y, fp2.Mul(a.z, run)}
}

func square(a api.Fp2) api.Fp2 {
	return fp2.Mul(a, a)
}

func double(a api.Fp2) api.Fp2 {
	return fp2.Add(a, a)
}
