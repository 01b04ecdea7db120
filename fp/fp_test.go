package fp

import (
	"math"
	"math/big"
	"testing"

	"intaglio/api"
)

// P3.1: P and May.

func TestPIsTheDocuments(t *testing.T) {
	p := P()
	if len(p) != 6 || bigOf(p).Cmp(modulus()) != 0 {
		t.Errorf("P: %x", p)
	}
	if !modulus().ProbablyPrime(20) {
		t.Error("P is no prime")
	}
}

func TestMayIsBelowP(t *testing.T) {
	for _, a := range numbers() {
		if !May(a) {
			t.Errorf("May(%x): no", a)
		}
	}
	for _, a := range strange() {
		if May(a) {
			t.Errorf("May(%x): yes", a)
		}
	}
}

func TestMayLooksAtEachLimb(t *testing.T) {
	for i := range 6 {
		up, down := near(0), near(0)
		up[i]++
		down[i]--
		if May(up) || !May(down) {
			t.Errorf("limb %d of P: one more: %t, one less: %t", i, May(up), May(down))
		}
	}
	m := mixer(11)
	for range 2000 {
		a := api.Fp(m.wide(6))
		a[5] %= 0x1a0111ea397fe69a + 2 // else hardly one is below P
		if May(a) != (bigOf(a[:]).Cmp(modulus()) < 0) {
			t.Errorf("May(%x): %t", a, May(a))
		}
	}
}

// P3.1: Add, Sub, Neg, Mul, Of.

func TestSumsAndProducts(t *testing.T) {
	pairs(func(a, b api.Fp) {
		x, y := bigOf(a[:]), bigOf(b[:])
		is(t, "Add", Add(a, b), new(big.Int).Add(x, y))
		is(t, "Sub", Sub(a, b), new(big.Int).Sub(x, y))
		is(t, "Mul", Mul(a, b), new(big.Int).Mul(x, y))
		is(t, "Neg", Neg(a), new(big.Int).Neg(x))
	})
}

func TestSumsThatPassP(t *testing.T) {
	top := near(-1)
	for _, x := range []struct {
		what      string
		got, want api.Fp
	}{
		{"P - 1 + 1", Add(top, Of(1)), api.Fp{}},
		{"P - 2 + 1", Add(near(-2), Of(1)), top},
		{"P - 1 + 2", Add(top, Of(2)), Of(1)},
		{"P - 1 + P - 1", Add(top, top), near(-2)},
		{"(P - 1) / 2 twice", Add(middle(-1), middle(-1)), top},
		{"(P - 1) / 2 + (P + 1) / 2", Add(middle(-1), middle(1)), api.Fp{}},
		{"(P + 1) / 2 twice", Add(middle(1), middle(1)), Of(1)},
		{"0 + 0", Add(api.Fp{}, api.Fp{}), api.Fp{}},
		{"P - 1 + 0", Add(top, api.Fp{}), top},
		{"0 - 1", Sub(api.Fp{}, Of(1)), top},
		{"0 - 0", Sub(api.Fp{}, api.Fp{}), api.Fp{}},
		{"0 - (P - 1)", Sub(api.Fp{}, top), Of(1)},
		{"1 - (P - 1)", Sub(Of(1), top), Of(2)},
		{"P - 1 - (P - 1)", Sub(top, top), api.Fp{}},
		{"-0", Neg(api.Fp{}), api.Fp{}},
		{"-1", Neg(Of(1)), top},
		{"-(P - 1)", Neg(top), Of(1)},
		{"(P - 1) (P - 1)", Mul(top, top), Of(1)},
		{"(P - 1) 0", Mul(top, api.Fp{}), api.Fp{}},
		{"(P - 1) 1", Mul(top, Of(1)), top},
		{"(P + 1) / 2 by 2", Mul(middle(1), Of(2)), Of(1)},
	} {
		if x.got != x.want {
			t.Errorf("%s: %x, not %x", x.what, x.got, x.want)
		}
	}
}

func TestOf(t *testing.T) {
	for _, n := range []uint64{0, 1, 2, 1 << 32, 1 << 63, most - 1, most} {
		is(t, "Of", Of(n), new(big.Int).SetUint64(n))
	}
	if Of(most) != (api.Fp{most}) {
		t.Errorf("Of: %x", Of(most))
	}
}

// P3.1: Pow.

// exponents have noughts on top, and up to MaxLimbs limbs.
func exponents() [][]uint64 {
	n := api.MaxLimbs
	out := [][]uint64{
		nil, {}, {0}, {0, 0}, make([]uint64, n),
		{1}, {1, 0}, padded(n-1, 1), {2}, {3}, {5, 1, 0}, {most}, padded(n-1, most),
		{0, 1}, {1, 1}, {0, 1, 0, 0}, {1 << 63}, {0, 1 << 63},
		full(n), full(n - 1), padded(1, full(n-1)...), append(make([]uint64, n-1), 1), append(make([]uint64, n-1), 1<<63),
	}
	for d := int64(-3); d <= 1; d++ {
		e := near(d)
		out = append(out, e[:])
	}
	m := mixer(5)
	for i := range 2 * n {
		out = append(out, m.wide(1+i%n))
	}
	return out
}

func TestPow(t *testing.T) {
	for _, a := range many(4, 3) {
		for _, e := range exponents() {
			if got := Pow(a, e); got != limbsOf(new(big.Int).Exp(bigOf(a[:]), bigOf(e), modulus())) {
				t.Errorf("Pow(%x, %x): %x", a, e, got)
			}
		}
	}
}

func TestPowOfNoughtIsOne(t *testing.T) {
	for _, a := range numbers() {
		for _, e := range [][]uint64{nil, {}, {0}, make([]uint64, api.MaxLimbs)} {
			if got := Pow(a, e); got != Of(1) {
				t.Errorf("Pow(%x, %x): %x", a, e, got)
			}
		}
	}
	if got := Pow(api.Fp{}, []uint64{0, 1}); got != (api.Fp{}) {
		t.Errorf("0^(2^64): %x", got)
	}
}

func TestPowMindsNoNoughtsOnTop(t *testing.T) {
	m := mixer(6)
	for range 50 {
		a, e := m.number(), m.wide(3)
		want := Pow(a, e)
		for n := range api.MaxLimbs - 2 {
			if got := Pow(a, padded(n, e...)); got != want {
				t.Errorf("Pow(%x, %x) with %d noughts on top: %x", a, e, n, got)
			}
		}
	}
}

// P3.1: Inv.

func TestInv(t *testing.T) {
	for _, a := range many(7, 300) {
		if a == (api.Fp{}) {
			continue
		}
		got, e := Inv(a)
		if e != api.OK || got != limbsOf(new(big.Int).ModInverse(bigOf(a[:]), modulus())) {
			t.Errorf("Inv(%x): %x, error %d", a, got, e)
		}
		if Mul(a, got) != Of(1) {
			t.Errorf("%x by its inverse: %x", a, Mul(a, got))
		}
	}
}

func TestInvOfNought(t *testing.T) {
	got, e := Inv(api.Fp{})
	refused(t, "Inv(0)", got, e, api.ErrZero)
}

// P3.1: Great.

func TestGreatAtTheEdges(t *testing.T) {
	for _, x := range []struct {
		what string
		a    api.Fp
		want bool
	}{
		{"0", api.Fp{}, false},
		{"1", Of(1), false},
		{"(P - 3) / 2", middle(-3), false},
		{"(P - 1) / 2", middle(-1), false},
		{"(P + 1) / 2", middle(1), true},
		{"(P + 3) / 2", middle(3), true},
		{"P - 2", near(-2), true},
		{"P - 1", near(-1), true},
		{"all but the top limb", api.Fp{most, most, most, most, most}, false},
	} {
		if Great(x.a) != x.want {
			t.Errorf("Great(%s): %t", x.what, !x.want)
		}
	}
}

func TestGreatLooksAtEachLimb(t *testing.T) {
	for i := range 6 {
		up, down := middle(-1), middle(-1)
		up[i]++
		down[i]--
		if !Great(up) || Great(down) {
			t.Errorf("limb %d of (P - 1) / 2: one more: %t, one less: %t", i, Great(up), Great(down))
		}
	}
	edge := new(big.Int).Rsh(modulus(), 1)
	for _, a := range many(13, 2000) {
		if Great(a) != (bigOf(a[:]).Cmp(edge) > 0) {
			t.Errorf("Great(%x): %t", a, Great(a))
		}
		if a != (api.Fp{}) && Great(a) == Great(Neg(a)) {
			t.Errorf("Great(%x) and of its negative: %t", a, Great(a))
		}
	}
}

// P3.1: Sqrt.

func TestSqrtAtTheEdges(t *testing.T) {
	for _, x := range []struct{ a, want api.Fp }{
		{Of(4), Of(2)},
		{api.Fp{}, api.Fp{}},
		{Of(1), Of(1)},
		{Of(9), Of(3)},
		{api.Fp{0, 1}, Of(1 << 32)},
		{api.Fp{0, 0, 1}, api.Fp{0, 1}},
		{Mul(near(-1), near(-1)), Of(1)},
		{Mul(near(-2), near(-2)), Of(2)},
		{Mul(middle(-1), middle(-1)), middle(-1)},
		{Mul(middle(1), middle(1)), middle(-1)},
		{Mul(middle(3), middle(3)), middle(-3)},
	} {
		if got, yes := Sqrt(x.a); got != x.want || !yes {
			t.Errorf("Sqrt(%x): %x, %t, not %x", x.a, got, yes, x.want)
		}
	}
}

// Of 1 and -1, of 4 and -4, one alone is a square: P is 3 modulo 4.
func TestSqrtOfWhatIsNoSquare(t *testing.T) {
	for _, a := range []api.Fp{near(-1), near(-4), near(-9), Of(2), {0, 0, 0, 0, 0, 1 << 57}} {
		if big.Jacobi(bigOf(a[:]), modulus()) != -1 {
			t.Fatalf("%x is a square", a)
		}
		if got, yes := Sqrt(a); got != (api.Fp{}) || yes {
			t.Errorf("Sqrt(%x): %x, %t", a, got, yes)
		}
	}
}

// lesserRoot is the library's, or nil.
func lesserRoot(a *big.Int) *big.Int {
	root := new(big.Int).ModSqrt(a, modulus())
	if root == nil {
		return nil
	}
	other := new(big.Int).Mod(new(big.Int).Neg(root), modulus())
	if other.Cmp(root) < 0 {
		return other
	}
	return root
}

func TestSqrt(t *testing.T) {
	squares, others := 0, 0
	for _, a := range many(14, 300) {
		got, yes := Sqrt(a)
		want := lesserRoot(bigOf(a[:]))
		if want == nil {
			others++
			if got != (api.Fp{}) || yes {
				t.Errorf("Sqrt(%x): %x, %t, where there is none", a, got, yes)
			}
			continue
		}
		squares++
		if got != limbsOf(want) || !yes {
			t.Errorf("Sqrt(%x): %x, %t, not %x", a, got, yes, want)
		}
	}
	if squares < 100 || others < 100 {
		t.Errorf("%d squares, %d others", squares, others)
	}
}

func TestSqrtOfASquareIsTheLesserRoot(t *testing.T) {
	for _, a := range many(15, 300) {
		got, yes := Sqrt(Mul(a, a))
		if !yes || Great(got) || got != a && got != Neg(a) {
			t.Errorf("Sqrt of the square of %x: %x, %t", a, got, yes)
		}
	}
}

// What follows: a field.

func TestField(t *testing.T) {
	m := mixer(8)
	list := many(9, 10)
	for _, a := range list {
		for _, b := range list {
			c := m.number()
			for what, holds := range map[string]bool{
				"a + b is b + a":             Add(a, b) == Add(b, a),
				"a b is b a":                 Mul(a, b) == Mul(b, a),
				"(a + b) + c is a + (b + c)": Add(Add(a, b), c) == Add(a, Add(b, c)),
				"(a b) c is a (b c)":         Mul(Mul(a, b), c) == Mul(a, Mul(b, c)),
				"a (b + c) is a b + a c":     Mul(a, Add(b, c)) == Add(Mul(a, b), Mul(a, c)),
				"a - b is a + -b":            Sub(a, b) == Add(a, Neg(b)),
				"a + 0 is a":                 Add(a, api.Fp{}) == a,
				"a 1 is a":                   Mul(a, Of(1)) == a,
			} {
				if !holds {
					t.Errorf("%s: %x, %x, %x", what, a, b, c)
				}
			}
		}
	}
}

func TestAnswersMayBe(t *testing.T) {
	pairs(func(a, b api.Fp) {
		for _, x := range []api.Fp{Add(a, b), Sub(a, b), Neg(a), Mul(a, b)} {
			if !May(x) {
				t.Errorf("of %x, %x: %x", a, b, x)
			}
		}
	})
	for _, n := range []uint64{0, 1, math.MaxUint64} {
		if !May(Of(n)) {
			t.Errorf("Of(%d): %x", n, Of(n))
		}
	}
}
