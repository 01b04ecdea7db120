package point

import (
	"intaglio/api"
	"intaglio/fp"
	"intaglio/fp2"
)

// place1 tells the place at x whose Y is Great, or not; api.ErrCurve: the
// curve has none there; api.ErrForm: Y is 0, and asked to be Great.
func place1(x api.Fp, great bool) (api.G1, api.Errno) {
	cube := fp.Mul(fp.Mul(x, x), x)
	root, is := fp.Sqrt(fp.Add(cube, api.Fp{4}))
	if !is {
		return api.G1{}, api.ErrCurve
	}
	y, e := side(root, great, fp.Neg)
	if e != api.OK {
		return api.G1{}, e
	}
	return api.G1{X: x, Y: y}, api.OK
}

// place2 is place1 on the curve over pairs.
func place2(x api.Fp2, great bool) (api.G2, api.Errno) {
	cube := fp2.Mul(fp2.Mul(x, x), x)
	root, is := fp2.Sqrt(fp2.Add(cube, api.Fp2{{4}, {4}}))
	if !is {
		return api.G2{}, api.ErrCurve
	}
	y, e := side(root, great, fp2.Neg)
	if e != api.OK {
		return api.G2{}, e
	}
	return api.G2{X: x, Y: y}, api.OK
}

// side tells root, which is not Great, or its negative, which is; api.ErrForm:
// 0 has no Great one.
func side[N api.Fp | api.Fp2](root N, great bool, neg func(N) N) (N, api.Errno) {
	var nought N
	if !great {
		return root, api.OK
	}
	if root == nought {
		// Neither curve has such a place, their orders being odd; but a text
		// that asked for one were a second text of it.
		return nought, api.ErrForm
	}
	return neg(root), api.OK
}
