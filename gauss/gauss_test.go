package gauss

import (
	"math"
	"testing"

	"intaglio/api"
)

// P4.1: May.

func TestMayLooksAtBothParts(t *testing.T) {
	for _, x := range []struct {
		what string
		part float64
		want bool
	}{
		{"0", 0, true},
		{"1", 1, true},
		{"-1", -1, true},
		{"one below 2^20", 1<<20 - 1, true},
		{"2^20", 1 << 20, true},
		{"one above 2^20", 1<<20 + 1, false},
		{"one above -2^20", -1<<20 + 1, true},
		{"-2^20", -1 << 20, true},
		{"one below -2^20", -1<<20 - 1, false},
		{"a half", 0.5, false},
		{"a half below 0", -0.5, false},
		{"nearly 3", math.Nextafter(3, 0), false},
		{"a little above 3", math.Nextafter(3, 4), false},
		{"nearly 2^20", math.Nextafter(1<<20, 0), false},
		{"a little above 2^20", math.Nextafter(1<<20, 1<<21), false},
		{"a little below -2^20", math.Nextafter(-1<<20, -1<<21), false},
		{"the least above 0", math.SmallestNonzeroFloat64, false},
		{"the greatest of all", math.MaxFloat64, false},
		{"2^32", 1 << 32, false},
		{"2^64", 1 << 64, false},
		{"endless", math.Inf(1), false},
		{"endless below 0", math.Inf(-1), false},
		{"no number", math.NaN(), false},
		{"-0", minus, false},
	} {
		for _, other := range []float64{0, 7, -1 << 20} {
			if May(complex(x.part, other)) != x.want || May(complex(other, x.part)) != x.want {
				t.Errorf("%s beside %v: %t, not %t", x.what, other, !x.want, x.want)
			}
		}
	}
	for _, z := range strange() {
		if May(z) {
			t.Errorf("%v may be", z)
		}
	}
	for _, a := range edges() {
		if !May(a.number()) {
			t.Errorf("%v may not be", a.number())
		}
	}
}

// P4.1: Add, Mul, Conj.

func TestAddMulConj(t *testing.T) {
	pairs(func(a, b pair) {
		is(t, "Add", Add(a.number(), b.number()), a.plus(b))
		is(t, "Mul", Mul(a.number(), b.number()), a.times(b))
		is(t, "Conj", Conj(a.number()), pair{a.x, -a.y})
	})
	is(t, "Mul", Mul(2+3i, 4-5i), pair{23, 2})
}

func TestPartsMayGrow(t *testing.T) {
	is(t, "Add", Add(complex(1<<20, -1<<20), complex(1<<20, -1<<20)), pair{1 << 21, -1 << 21})
	is(t, "Mul", Mul(complex(1<<20, 1<<20), complex(1<<20, 1<<20)), pair{0, 1 << 41})
	is(t, "Mul", Mul(complex(1<<20, -1<<20), complex(-1<<20, -1<<20)), pair{-1 << 41, 0})
}

func TestNoAnswerHasANoughtBelow0(t *testing.T) {
	for _, x := range []struct {
		what string
		got  complex128
		want pair
	}{
		{"Conj of a real number", Conj(5), pair{5, 0}},
		{"Conj of one below 0", Conj(-5), pair{-5, 0}},
		{"Conj of 0", Conj(0), pair{}},
		{"Conj of an imaginary number", Conj(5i), pair{0, -5}},
		{"a sum of 0", Add(3-4i, -3+4i), pair{}},
		{"a sum with a part of 0", Add(3-4i, -3), pair{0, -4}},
		{"0 and 0", Add(0, 0), pair{}},
		{"0 by one below 0", Mul(0, -3-3i), pair{}},
		{"one below 0 by 0", Mul(-3-3i, 0), pair{}},
		{"-1 by 5i", Mul(-1, 5i), pair{0, -5}},
		{"-1 by 5", Mul(-1, 5), pair{-5, 0}},
		{"i by -i", Mul(1i, -1i), pair{1, 0}},
		{"i by i", Mul(1i, 1i), pair{-1, 0}},
		{"1 - i squared", Mul(1-1i, 1-1i), pair{0, -2}},
	} {
		is(t, x.what, x.got, x.want)
	}
}

// P4.1: Norm.

func TestNorm(t *testing.T) {
	for _, x := range []struct {
		a    complex128
		want int
	}{
		{0, 0}, {1, 1}, {-1, 1}, {1i, 1}, {3 - 4i, 25}, {-3 + 4i, 25}, {1 << 20, 1 << 40}, {-1 << 20, 1 << 40},
		{complex(1<<20, 1<<20), 1 << 41}, {complex(-1<<20, -1<<20), 1 << 41}, {complex(-1<<20, 1), 1<<40 + 1},
	} {
		if got := Norm(x.a); got != x.want {
			t.Errorf("Norm(%v): %d, not %d", x.a, got, x.want)
		}
	}
	m := mixer(2)
	for range 20000 {
		a := m.pair()
		if got := Norm(a.number()); got != a.norm() {
			t.Errorf("Norm(%v): %d, not %d", a.number(), got, a.norm())
		}
	}
}

// What follows. Of the longest of these the product's parts are above 2^20.
func TestNormMultiplies(t *testing.T) {
	m := mixer(3)
	for range 20000 {
		a, b := pair{m.within(20000), m.within(20000)}.number(), pair{m.within(20000), m.within(20000)}.number()
		if got := Norm(Mul(a, b)); got != Norm(a)*Norm(b) {
			t.Errorf("%v, %v: %d, not %d", a, b, got, Norm(a)*Norm(b))
		}
		if got := Mul(a, Conj(a)); !same(got, complex(float64(Norm(a)), 0)) {
			t.Errorf("%v by its Conj: %v", a, got)
		}
	}
}

// P4.1: Div.

func TestDivHalvesUp(t *testing.T) {
	for _, x := range []struct{ a, b, q, rest complex128 }{
		{7 + 3i, 2, 4 + 2i, -1 - 1i},
		{-7, 2, -3, -1},
		{7, -2, -3, 1},
		{-7, -2, 4, 1},
		{1, 2, 1, -1},
		{-1, 2, 0, -1},
		{1i, 2, 1i, -1i},
		{-1i, 2, 0, -1i},
		{-1 - 3i, 2, -1i, -1 - 1i},
		{3, 2i, -1i, 1},
		{1, 1 + 1i, 1, -1i},
		{-1, 1 + 1i, 1i, -1i},
		{5 + 5i, 1 + 2i, 3 - 1i, 0},
		{0, 3i, 0, 0},
		{0, -3 - 3i, 0, 0},
		{1, 3, 0, 1},
		{-1, 3, 0, -1},
		{2, 3, 1, -1},
		{-2, 3, -1, 1},
		{-5i, 5i, -1, 0},
		{1 << 20, -1, -1 << 20, 0},
		{complex(1<<20, 1<<20), 1 + 1i, 1 << 20, 0},
		{complex(1<<20, 1<<20), -1i, complex(-1<<20, 1<<20), 0},
		{complex(-1<<19, 0), 1 << 20, 0, complex(-1<<19, 0)},
		{complex(1<<19, 0), 1 << 20, 1, complex(-1<<19, 0)},
		{complex(-1<<19-1, 1<<19-1), 1 << 20, -1, complex(1<<19-1, 1<<19-1)},
	} {
		if q, rest, e := Div(x.a, x.b); !same(q, x.q) || !same(rest, x.rest) || e != api.OK {
			t.Errorf("%v by %v: %v, %v, error %d, not %v, %v", x.a, x.b, q, rest, e, x.q, x.rest)
		}
	}
}

// divided fails unless Div(a, b) is right: between the quotient's parts and
// those of a / b lies from -1/2 on less than 1/2.
func divided(t *testing.T, a, b pair) {
	t.Helper()
	q, rest, e := Div(a.number(), b.number())
	if e != api.OK || !May(q) || !May(rest) {
		t.Fatalf("%v by %v: %v, %v, error %d", a, b, q, rest, e)
	}
	whole := pairOf(t, "the quotient", q)
	is(t, "the rest", rest, a.less(whole.times(b)))
	n := b.norm()
	over := a.times(pair{b.x, -b.y}).less(pair{whole.x * n, whole.y * n})
	for _, x := range []int{over.x, over.y} {
		if 2*x < -n || 2*x >= n {
			t.Errorf("%v by %v: %v", a, b, q)
		}
	}
	if 2*Norm(rest) > n {
		t.Errorf("%v by %v: the rest %v is too long", a, b, rest)
	}
}

func TestDiv(t *testing.T) {
	pairs(func(a, b pair) {
		if b != (pair{}) {
			divided(t, a, b)
		}
	})
	for _, a := range square(9) {
		for _, b := range square(4) {
			if b != (pair{}) {
				divided(t, a, b)
			}
		}
	}
}

// Where a / b is a whole number and a half, or just beside that.
func TestDivNearHalves(t *testing.T) {
	m := mixer(4)
	for range 20000 {
		b := pair{m.within(1 << 10), m.within(1 << 10)}
		k := pair{m.within(1 << 8), m.within(1 << 8)}
		half := b.times(pair{2*k.x + 1, 2*k.y + 1}) // twice b (k + 1/2 + i/2)
		for _, d := range square(1) {
			if b != (pair{}) {
				divided(t, pair{half.x/2 + d.x, half.y/2 + d.y}, b)
			}
		}
	}
	for _, d := range square(2) {
		divided(t, pair{1<<19 + d.x, -1<<19 + d.y}, pair{1<<20 - 1, 0})
		divided(t, pair{1<<19 + d.x, -1<<19 + d.y}, pair{0, -1 << 20})
		divided(t, pair{1<<20 - 3 + d.x, d.y}, pair{1<<20 - 1, 1<<20 - 1})
	}
}

func TestDivOfMultiplesLeavesNothing(t *testing.T) {
	m := mixer(5)
	for range 20000 {
		q, b := pair{m.within(700), m.within(700)}, pair{m.within(700), m.within(700)}
		if b == (pair{}) {
			continue
		}
		got, rest, e := Div(q.times(b).number(), b.number())
		if !same(got, q.number()) || !same(rest, 0) || e != api.OK {
			t.Errorf("%v by %v: %v, %v, error %d", q.times(b), b, got, rest, e)
		}
	}
}

func TestDivBy0(t *testing.T) {
	for _, a := range append(edges(), pair{3, 0}, pair{-7, 9}) {
		if q, rest, e := Div(a.number(), 0); !same(q, 0) || !same(rest, 0) || e != api.ErrZero {
			t.Errorf("%v by 0: %v, %v, error %d", a, q, rest, e)
		}
	}
}
