package g1

import (
	"intaglio/api"
	"intaglio/fp"
)

// jacobi is a point in Jacobi's coordinates: X is x / (z z), Y is
// y / (z z z), and where z is 0 it is Inf. Of such points sums need no
// division, so that one alone, in drop, does for a whole call.
type jacobi struct{ x, y, z api.Fp }

// lift tells Jacobi's coordinates of p.
func lift(p api.G1) jacobi {
	if p.Inf {
		return jacobi{}
	}
	return jacobi{p.X, p.Y, fp.Of(1)}
}

// drop tells whose Jacobi's coordinates a has.
func drop(a jacobi) api.G1 {
	part, e := fp.Inv(a.z)
	if e != api.OK {
		return api.G1{Inf: true}
	}
	parts := square(part)
	return api.G1{X: fp.Mul(a.x, parts), Y: fp.Mul(a.y, fp.Mul(parts, part))}
}

func isInf(a jacobi) bool {
	return a.z == api.Fp{}
}

// twice tells a + a.
func twice(a jacobi) jacobi {
	// The line that touches the curve in a goes up by 3 x x on 2 y z. Of Inf
	// z stays 0.
	xx, yy := square(a.x), square(a.y)
	rise := fp.Add(double(xx), xx)
	reach := double(double(fp.Mul(a.x, yy)))
	x := fp.Sub(square(rise), double(reach))
	fall := double(double(double(square(yy))))
	y := fp.Sub(fp.Mul(rise, fp.Sub(reach, x)), fall)
	return jacobi{x, y, double(fp.Mul(a.y, a.z))}
}

// plus tells a + q.
func plus(a jacobi, q api.G1) jacobi {
	if q.Inf {
		return a
	}
	if isInf(a) {
		return lift(q)
	}
	zz := square(a.z)
	run := fp.Sub(fp.Mul(q.X, zz), a.x)
	rise := fp.Sub(fp.Mul(q.Y, fp.Mul(zz, a.z)), a.y)
	if run != (api.Fp{}) {
		return across(a, run, rise)
	}
	if rise != (api.Fp{}) {
		return jacobi{} // one is the negative of the other
	}
	return twice(a)
}

// across tells a plus the point to which the line from a goes up by rise on
// run z; run is not 0.
func across(a jacobi, run, rise api.Fp) jacobi {
	runs := square(run)
	cube := fp.Mul(runs, run)
	reach := fp.Mul(a.x, runs)
	x := fp.Sub(fp.Sub(square(rise), cube), double(reach))
	y := fp.Sub(fp.Mul(rise, fp.Sub(reach, x)), fp.Mul(a.y, cube))
	return jacobi{x, y, fp.Mul(a.z, run)}
}

func square(a api.Fp) api.Fp {
	return fp.Mul(a, a)
}

func double(a api.Fp) api.Fp {
	return fp.Add(a, a)
}
