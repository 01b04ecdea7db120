package fp2

import (
	"intaglio/api"
	"intaglio/fp"
)

// half is 1 / 2, which is (P + 1) / 2.
var half = api.Fp{0xdcff7fffffffd556, 0x0f55ffff58a9ffff, 0xb39869507b587b12, 0xb23ba5c279c2895f, 0x258dd3db21a5d66b, 0x0d0088f51cbff34d}

// Great tells whether X1 is Great or, where X1 is 0, X0.
func Great(a api.Fp2) bool {
	if a[1] == (api.Fp{}) {
		return fp.Great(a[0])
	}
	return fp.Great(a[1])
}

// Sqrt tells the one that is not Great of the two numbers whose square is a
// (0 of 0); no: there is none.
func Sqrt(a api.Fp2) (api.Fp2, bool) {
	root := anyRoot(a)
	if Mul(root, root) != a {
		return api.Fp2{}, false
	}
	if Great(root) {
		return Neg(root), true
	}
	return root, true
}

// anyRoot tells a number whose square is a, if there is one.
func anyRoot(a api.Fp2) api.Fp2 {
	if a[1] == (api.Fp{}) {
		return flatRoot(a[0])
	}
	return crossRoot(a)
}

// flatRoot tells a number whose square is x: there is one, for -1 is no
// square modulo P, so x or -x is.
func flatRoot(x api.Fp) api.Fp2 {
	if r, is := fp.Sqrt(x); is {
		return api.Fp2{r}
	}
	r, _ := fp.Sqrt(fp.Neg(x))
	return api.Fp2{{}, r}
}

// crossRoot tells a number whose square is a, if there is one; X1 of a is
// not 0.
func crossRoot(a api.Fp2) api.Fp2 {
	// Of a root R0 + R1 u the norm's square is the norm of a, so a's norm has
	// a root n, and R0 R0 is (X0 + n) / 2 or (X0 - n) / 2. Their product is
	// -(X1 / 2)^2, no square: one of the two has a root, and it is not 0.
	n, is := fp.Sqrt(norm(a))
	if !is {
		return api.Fp2{}
	}
	r0, is := fp.Sqrt(fp.Mul(fp.Add(a[0], n), half))
	if !is {
		r0, _ = fp.Sqrt(fp.Mul(fp.Sub(a[0], n), half))
	}
	part, _ := fp.Inv(r0)
	return api.Fp2{r0, fp.Mul(fp.Mul(a[1], half), part)} // 2 R0 R1 is X1
}
