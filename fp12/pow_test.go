package fp12

import (
	"math/big"
	"testing"

	"intaglio/api"
)

// P7.1: Pow.

// exponents have noughts on top, and up to MaxLimbs limbs.
func exponents() [][]uint64 {
	n := api.MaxLimbs
	out := [][]uint64{
		nil, {}, {0}, {0, 0}, make([]uint64, n),
		{1}, {1, 0}, padded(n-1, 1), {2}, {3}, {4}, {5, 1, 0}, {most}, padded(n-1, most),
		{0, 1}, {1, 1}, {0, 1, 0, 0}, {1 << 63}, {0, 1 << 63},
		full(n), full(n - 1), padded(1, full(n-1)...), append(make([]uint64, n-1), 1), append(make([]uint64, n-1), 1<<63),
	}
	for d := int64(-2); d <= 1; d++ {
		e := near(d)
		out = append(out, e[:])
	}
	m := mixer(12)
	for i := 1; i <= n; i += 4 {
		out = append(out, m.wide(i))
	}
	return out
}

func TestPow(t *testing.T) {
	m := mixer(13)
	for _, a := range []api.Fp12{w, {{}, {{}, {}, {{}, near(-1)}}}, m.number()} {
		for _, e := range exponents() {
			if got, want := Pow(a, e), plainOf(a).pow(bigOf(e)).six(); got != want {
				t.Errorf("Pow(%x, %x): %x, not %x", a, e, got, want)
			}
		}
	}
}

func TestPowBySmallExponents(t *testing.T) {
	for _, a := range some(14) {
		want := One()
		for e := range uint64(20) {
			if got := Pow(a, []uint64{e}); got != want {
				t.Errorf("%x^%d: %x, not %x", a, e, got, want)
			}
			want = Mul(want, a)
		}
	}
}

func TestPowOfNoughtIsOne(t *testing.T) {
	for _, a := range append(some(15), alone()...) {
		for _, e := range [][]uint64{nil, {}, {0}, make([]uint64, api.MaxLimbs)} {
			if got := Pow(a, e); got != one {
				t.Errorf("Pow(%x, %x): %x", a, e, got)
			}
		}
		if got := Pow(a, []uint64{1}); got != a {
			t.Errorf("%x^1: %x", a, got)
		}
	}
}

func TestPowsOfNought(t *testing.T) {
	for _, e := range exponents() {
		want := api.Fp12{}
		if bigOf(e).Sign() == 0 {
			want = one
		}
		if got := Pow(api.Fp12{}, e); got != want {
			t.Errorf("0^%x: %x", e, got)
		}
	}
}

func TestPowsOfWClimb(t *testing.T) {
	lifted := api.Fp2{{1}, {1}}
	want := []api.Fp12{one, w, v, vw, vv, vvw, {{lifted}}, {{}, {lifted}}, {{{}, lifted}}, {{}, {{}, lifted}}, {{{}, {}, lifted}}, {{}, {{}, {}, lifted}}, {{{{}, {2}}}}}
	for e, x := range want {
		if got := Pow(w, []uint64{uint64(e), 0}); got != x {
			t.Errorf("w^%d: %x, not %x", e, got, x)
		}
	}
}

func TestPowsOfOnes(t *testing.T) {
	less := api.Fp12{{{near(-1)}}}
	for _, e := range exponents() {
		want := one
		if bigOf(e).Bit(0) == 1 {
			want = less
		}
		if Pow(one, e) != one || Pow(less, e) != want {
			t.Errorf("1^%x: %x, (-1)^%x: %x", e, Pow(one, e), e, Pow(less, e))
		}
	}
}

func TestPowMindsNoNoughtsOnTop(t *testing.T) {
	m := mixer(16)
	for range 3 {
		a, e := m.number(), m.wide(3)
		want := Pow(a, e)
		for n := range api.MaxLimbs - 2 {
			if got := Pow(a, padded(n, e...)); got != want {
				t.Errorf("Pow(%x, %x) with %d noughts on top: %x", a, e, n, got)
			}
		}
	}
}

func TestExponentsAddUp(t *testing.T) {
	m := mixer(17)
	n := api.MaxLimbs
	for _, x := range [][2][]uint64{
		{nil, nil},
		{nil, {7}},
		{{3}, {5}},
		{{1}, {most}},
		{{most}, {most}},
		{{1}, full(n - 1)},
		{full(n - 1), full(n - 1)},
		{full(n), nil},
		{append([]uint64{0}, full(n-1)...), {most}},
		{m.wide(6), m.wide(6)},
		{m.wide(2), m.wide(17)},
		{m.wide(n - 1), m.wide(n - 1)},
	} {
		a := m.number()
		sum := wideOf(new(big.Int).Add(bigOf(x[0]), bigOf(x[1])))
		if got, want := Mul(Pow(a, x[0]), Pow(a, x[1])), Pow(a, sum); got != want {
			t.Errorf("%x^%x by ^%x: %x, not %x", a, x[0], x[1], got, want)
		}
	}
}

func TestExponentsMultiply(t *testing.T) {
	m := mixer(18)
	for i := 1; i <= api.MaxLimbs/2; i += 3 {
		a, b, e, f := m.number(), m.number(), m.wide(i), m.wide(api.MaxLimbs/2)
		product := wideOf(new(big.Int).Mul(bigOf(e), bigOf(f)))
		if Pow(Pow(a, e), f) != Pow(a, product) {
			t.Errorf("(%x^%x)^%x is not ^%x", a, e, f, product)
		}
		if Pow(Mul(a, b), e) != Mul(Pow(a, e), Pow(b, e)) {
			t.Errorf("(%x by %x)^%x", a, b, e)
		}
	}
}

// What follows: Conj is Pow by P^6. P^6 has more than MaxLimbs limbs, so it is
// gone to in steps of P, and in steps of P^3.

func TestConjIsPowByTheSixthPowerOfP(t *testing.T) {
	p := wideOf(modulus())
	cube := wideOf(new(big.Int).Exp(modulus(), big.NewInt(3), nil))
	m := mixer(19)
	both := m.number()
	for _, a := range []api.Fp12{{}, one, u, v, w, vw, vvw, same(near(-1)), {both[0]}, {{}, both[1]}, both, m.number()} {
		x := a
		for range 6 {
			x = Pow(x, p)
		}
		if x != Conj(a) {
			t.Errorf("%x^(P^6): %x, not %x", a, x, Conj(a))
		}
		if got := Pow(Pow(a, cube), cube); got != Conj(a) {
			t.Errorf("%x^(P^3)^(P^3): %x, not %x", a, got, Conj(a))
		}
	}
}

func TestConjIsTheTestsOwnPowByTheSixthPowerOfP(t *testing.T) {
	sixth := new(big.Int).Exp(modulus(), big.NewInt(6), nil)
	m := mixer(20)
	for _, a := range []api.Fp12{one, u, v, w, vvw, m.number(), m.number()} {
		is(t, "Conj", Conj(a), plainOf(a).pow(sixth))
	}
}
