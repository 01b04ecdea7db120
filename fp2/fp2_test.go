package fp2

import (
	"math/big"
	"testing"

	"intaglio/api"
)

// P5.1: May.

func TestMayAsksBothParts(t *testing.T) {
	for _, a := range many(1, 100) {
		if !May(a) {
			t.Errorf("May(%x): no", a)
		}
	}
	for _, a := range strange() {
		if May(a) {
			t.Errorf("May(%x): yes", a)
		}
	}
	top := near(-1)
	if !May(api.Fp2{top, top}) || May(api.Fp2{near(0), top}) || May(api.Fp2{top, near(0)}) || May(api.Fp2{near(0), near(0)}) {
		t.Error("May of P - 1 and P")
	}
}

// P5.1: Add, Sub, Neg, Mul, Conj.

func TestSumsAndProducts(t *testing.T) {
	twos(func(a, b api.Fp2) {
		x, y := plainOf(a), plainOf(b)
		is(t, "Add", Add(a, b), x.add(y))
		is(t, "Sub", Sub(a, b), x.add(y.neg()))
		is(t, "Mul", Mul(a, b), x.mul(y))
	})
	for _, a := range many(3, 500) {
		x := plainOf(a)
		is(t, "Neg", Neg(a), x.neg())
		is(t, "Mul by itself", Mul(a, a), x.mul(x))
		is(t, "Conj", Conj(a), plain{x.x, new(big.Int).Neg(x.y)})
	}
}

func TestSumsAndProductsAtTheEdges(t *testing.T) {
	top, nought := near(-1), api.Fp{}
	for _, x := range []struct {
		what      string
		got, want api.Fp2
	}{
		{"u u", Mul(u, u), api.Fp2{top}},
		{"u (-u)", Mul(u, Neg(u)), one},
		{"-1 by -1", Mul(api.Fp2{top}, api.Fp2{top}), one},
		{"1 + u by 1 - u", Mul(api.Fp2{{1}, {1}}, api.Fp2{{1}, top}), api.Fp2{{2}}},
		{"1 + u by itself", Mul(api.Fp2{{1}, {1}}, api.Fp2{{1}, {1}}), api.Fp2{nought, {2}}},
		{"-1 - u by itself", Mul(api.Fp2{top, top}, api.Fp2{top, top}), api.Fp2{nought, {2}}},
		{"2 + 3 u by 5 + 7 u", Mul(api.Fp2{{2}, {3}}, api.Fp2{{5}, {7}}), api.Fp2{near(-11), {29}}},
		{"-1 - u by 0", Mul(api.Fp2{top, top}, api.Fp2{}), api.Fp2{}},
		{"-1 - u by 1", Mul(api.Fp2{top, top}, one), api.Fp2{top, top}},
		{"-1 - u and 1 + u", Add(api.Fp2{top, top}, api.Fp2{{1}, {1}}), api.Fp2{}},
		{"-1 and 2 u", Add(api.Fp2{top}, api.Fp2{nought, {2}}), api.Fp2{top, {2}}},
		{"0 - 1 - u", Sub(api.Fp2{}, api.Fp2{{1}, {1}}), api.Fp2{top, top}},
		{"u - 1", Sub(u, one), api.Fp2{top, {1}}},
		{"-0", Neg(api.Fp2{}), api.Fp2{}},
		{"-(1)", Neg(one), api.Fp2{top}},
		{"-(u)", Neg(u), api.Fp2{nought, top}},
		{"Conj of 0", Conj(api.Fp2{}), api.Fp2{}},
		{"Conj of 1", Conj(one), one},
		{"Conj of -1", Conj(api.Fp2{top}), api.Fp2{top}},
		{"Conj of u", Conj(u), api.Fp2{nought, top}},
		{"Conj of -1 - u", Conj(api.Fp2{top, top}), api.Fp2{top, {1}}},
	} {
		if x.got != x.want {
			t.Errorf("%s: %x, not %x", x.what, x.got, x.want)
		}
	}
}

// P5.1: Inv.

func TestInv(t *testing.T) {
	for _, a := range many(4, 200) {
		if a == (api.Fp2{}) {
			continue
		}
		got, e := Inv(a)
		if e != api.OK || !May(got) || plainOf(a).mul(plainOf(got)).pair() != one {
			t.Errorf("Inv(%x): %x, error %d", a, got, e)
		}
	}
}

func TestInvWhereOnePartIsNought(t *testing.T) {
	nought := api.Fp{}
	for _, x := range []struct{ a, want api.Fp2 }{
		{one, one},
		{api.Fp2{near(-1)}, api.Fp2{near(-1)}},
		{api.Fp2{{2}}, api.Fp2{middle(1)}},
		{u, api.Fp2{nought, near(-1)}},
		{api.Fp2{nought, near(-1)}, u},
		{api.Fp2{nought, {2}}, api.Fp2{nought, middle(-1)}},
		{api.Fp2{{1}, {1}}, api.Fp2{middle(1), middle(-1)}},
	} {
		if got, e := Inv(x.a); got != x.want || e != api.OK {
			t.Errorf("Inv(%x): %x, error %d, not %x", x.a, got, e, x.want)
		}
	}
}

func TestInvOfNought(t *testing.T) {
	if got, e := Inv(api.Fp2{}); got != (api.Fp2{}) || e != api.ErrZero {
		t.Errorf("Inv(0): %x, error %d", got, e)
	}
}

// P5.1: Pow.

// exponents have noughts on top, and up to MaxLimbs limbs.
func exponents() [][]uint64 {
	n := api.MaxLimbs
	out := [][]uint64{
		nil, {}, {0}, {0, 0}, make([]uint64, n),
		{1}, {1, 0}, padded(n-1, 1), {2}, {3}, {4}, {5, 1, 0}, {most}, padded(n-1, most),
		{0, 1}, {1, 1}, {0, 1, 0, 0}, {1 << 63}, {0, 1 << 63},
		full(n), full(n - 1), padded(1, full(n-1)...), append(make([]uint64, n-1), 1), append(make([]uint64, n-1), 1<<63),
	}
	for d := int64(-3); d <= 1; d++ {
		e := near(d)
		out = append(out, e[:])
	}
	m := mixer(5)
	for i := range n {
		out = append(out, m.wide(1+i%n))
	}
	return out
}

func TestPow(t *testing.T) {
	m := mixer(6)
	for _, a := range []api.Fp2{{}, one, u, {near(-1)}, {{}, near(-1)}, {{2}}, {{}, {2}}, {{1}, {1}}, {near(-1), near(-1)}, m.number(), m.number()} {
		for _, e := range exponents() {
			if got, want := Pow(a, e), plainOf(a).pow(bigOf(e)).pair(); got != want {
				t.Errorf("Pow(%x, %x): %x, not %x", a, e, got, want)
			}
		}
	}
}

func TestPowOfNoughtIsOne(t *testing.T) {
	for _, a := range numbers() {
		for _, e := range [][]uint64{nil, {}, {0}, make([]uint64, api.MaxLimbs)} {
			if got := Pow(a, e); got != one {
				t.Errorf("Pow(%x, %x): %x", a, e, got)
			}
		}
	}
	if got := Pow(api.Fp2{}, []uint64{0, 1}); got != (api.Fp2{}) {
		t.Errorf("0^(2^64): %x", got)
	}
}

func TestPowsOfUGoRound(t *testing.T) {
	want := []api.Fp2{one, u, Neg(one), Neg(u)}
	for e := range uint64(12) {
		if got := Pow(u, []uint64{e, 0}); got != want[e%4] {
			t.Errorf("u^%d: %x", e, got)
		}
	}
}

func TestPowMindsNoNoughtsOnTop(t *testing.T) {
	m := mixer(7)
	for range 10 {
		a, e := m.number(), m.wide(3)
		want := Pow(a, e)
		for n := range api.MaxLimbs - 2 {
			if got := Pow(a, padded(n, e...)); got != want {
				t.Errorf("Pow(%x, %x) with %d noughts on top: %x", a, e, n, got)
			}
		}
	}
}

// What follows: Conj is Pow by P; a field.

func TestConjIsPowByP(t *testing.T) {
	p := near(0)
	for _, a := range many(8, 50) {
		if got := Pow(a, p[:]); got != Conj(a) {
			t.Errorf("%x^P: %x, not %x", a, got, Conj(a))
		}
	}
}

func TestField(t *testing.T) {
	m := mixer(9)
	list := many(10, 10)
	for _, a := range list {
		for _, b := range list {
			c := m.number()
			for what, holds := range map[string]bool{
				"a + b is b + a":             Add(a, b) == Add(b, a),
				"a b is b a":                 Mul(a, b) == Mul(b, a),
				"(a + b) + c is a + (b + c)": Add(Add(a, b), c) == Add(a, Add(b, c)),
				"(a b) c is a (b c)":         Mul(Mul(a, b), c) == Mul(a, Mul(b, c)),
				"a (b + c) is a b + a c":     Mul(a, Add(b, c)) == Add(Mul(a, b), Mul(a, c)),
				"a - b is a + -b":            Sub(a, b) == Add(a, Neg(b)),
				"Conj of a b":                Conj(Mul(a, b)) == Mul(Conj(a), Conj(b)),
				"Conj of Conj":               Conj(Conj(a)) == a,
				"a + 0 is a":                 Add(a, api.Fp2{}) == a,
				"a 1 is a":                   Mul(a, one) == a,
			} {
				if !holds {
					t.Errorf("%s: %x, %x, %x", what, a, b, c)
				}
			}
		}
	}
}

func TestAnswersMayBe(t *testing.T) {
	twos(func(a, b api.Fp2) {
		for _, x := range []api.Fp2{Add(a, b), Sub(a, b), Neg(a), Mul(a, b), Conj(a)} {
			if !May(x) {
				t.Errorf("of %x, %x: %x", a, b, x)
			}
		}
	})
}
