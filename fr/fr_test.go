package fr

import (
	"math"
	"math/big"
	"slices"
	"testing"

	"intaglio/api"
)

// P2.1: R and May.

func TestRIsTheDocuments(t *testing.T) {
	r := R()
	if len(r) != 4 || bigOf(r).Cmp(modulus()) != 0 {
		t.Errorf("R: %x", r)
	}
	if !modulus().ProbablyPrime(20) {
		t.Error("R is no prime")
	}
}

func TestMayIsBelowR(t *testing.T) {
	for _, a := range scalars() {
		if !May(a) {
			t.Errorf("May(%x): no", a)
		}
	}
	for _, d := range []int64{0, 1, 2, math.MaxInt64} {
		if May(near(d)) {
			t.Errorf("May(R + %d): yes", d)
		}
	}
	for _, a := range []api.Fr{{most, most, most, most}, {0, 0, 0, most}, {0, 0, 0, 1 << 63}, {0, 0, 0, 0x73eda753299d7d49}} {
		if May(a) {
			t.Errorf("May(%x): yes", a)
		}
	}
}

func TestMayLooksAtEachLimb(t *testing.T) {
	for i := range 4 {
		up, down := near(0), near(0)
		up[i]++
		down[i]--
		if May(up) || !May(down) {
			t.Errorf("limb %d of R: one more: %t, one less: %t", i, May(up), May(down))
		}
	}
	m := mixer(11)
	for range 2000 {
		a := api.Fr(m.number(4))
		if May(a) != (bigOf(a[:]).Cmp(modulus()) < 0) {
			t.Errorf("May(%x): %t", a, May(a))
		}
	}
}

// P2.1: Add, Sub, Neg, Mul, Of.

func TestSumsAndProducts(t *testing.T) {
	pairs(func(a, b api.Fr) {
		x, y := bigOf(a[:]), bigOf(b[:])
		is(t, "Add", Add(a, b), new(big.Int).Add(x, y))
		is(t, "Sub", Sub(a, b), new(big.Int).Sub(x, y))
		is(t, "Mul", Mul(a, b), new(big.Int).Mul(x, y))
		is(t, "Neg", Neg(a), new(big.Int).Neg(x))
	})
}

func TestSumsThatPassR(t *testing.T) {
	top := near(-1)
	for _, x := range []struct {
		what      string
		got, want api.Fr
	}{
		{"R - 1 + 1", Add(top, Of(1)), api.Fr{}},
		{"R - 2 + 1", Add(near(-2), Of(1)), top},
		{"R - 1 + 2", Add(top, Of(2)), Of(1)},
		{"R - 1 + R - 1", Add(top, top), near(-2)},
		{"(R - 1) / 2 twice", Add(half(-1), half(-1)), top},
		{"(R - 1) / 2 + (R + 1) / 2", Add(half(-1), half(1)), api.Fr{}},
		{"(R + 1) / 2 twice", Add(half(1), half(1)), Of(1)},
		{"0 + 0", Add(api.Fr{}, api.Fr{}), api.Fr{}},
		{"0 - 1", Sub(api.Fr{}, Of(1)), top},
		{"0 - 0", Sub(api.Fr{}, api.Fr{}), api.Fr{}},
		{"0 - (R - 1)", Sub(api.Fr{}, top), Of(1)},
		{"1 - (R - 1)", Sub(Of(1), top), Of(2)},
		{"R - 1 - (R - 1)", Sub(top, top), api.Fr{}},
		{"-0", Neg(api.Fr{}), api.Fr{}},
		{"-1", Neg(Of(1)), top},
		{"-(R - 1)", Neg(top), Of(1)},
		{"(R - 1) (R - 1)", Mul(top, top), Of(1)},
		{"(R - 1) 0", Mul(top, api.Fr{}), api.Fr{}},
		{"(R - 1) 1", Mul(top, Of(1)), top},
		{"(R + 1) / 2 by 2", Mul(half(1), Of(2)), Of(1)},
	} {
		if x.got != x.want {
			t.Errorf("%s: %x, not %x", x.what, x.got, x.want)
		}
	}
}

func TestOf(t *testing.T) {
	for _, n := range []uint64{0, 1, 2, 1 << 32, 1 << 63, most - 1, most} {
		is(t, "Of", Of(n), new(big.Int).SetUint64(n))
	}
	if Of(most) != (api.Fr{most}) {
		t.Errorf("Of: %x", Of(most))
	}
}

// P2.1: Pow.

// exponents have noughts on top, and up to MaxLimbs limbs.
func exponents() [][]uint64 {
	n := api.MaxLimbs
	out := [][]uint64{
		nil, {}, {0}, {0, 0}, make([]uint64, n),
		{1}, {1, 0}, padded(n-1, 1), {2}, {3}, {5, 1, 0}, {most}, padded(n-1, most),
		{0, 1}, {1, 1}, {0, 1, 0, 0}, {1 << 63}, {0, 1 << 63},
		full(n), full(n - 1), padded(1, full(n-1)...), append(make([]uint64, n-1), 1), append(make([]uint64, n-1), 1<<63),
	}
	for d := int64(-3); d <= 1; d++ {
		e := near(d)
		out = append(out, e[:])
	}
	m := mixer(5)
	for i := range 2 * n {
		out = append(out, m.number(1+i%n))
	}
	return out
}

func TestPow(t *testing.T) {
	bases := append(scalars(), api.Fr{0x0badf00d12345678, 0xdeadbeefcafebabe, 0x0fedcba987654321, 0x0123456789abcdef})
	for _, a := range bases {
		for _, e := range exponents() {
			if got := Pow(a, e); got != limbsOf(new(big.Int).Exp(bigOf(a[:]), bigOf(e), modulus())) {
				t.Errorf("Pow(%x, %x): %x", a, e, got)
			}
		}
	}
}

func TestPowOfNoughtIsOne(t *testing.T) {
	for _, a := range scalars() {
		for _, e := range [][]uint64{nil, {}, {0}, make([]uint64, api.MaxLimbs)} {
			if got := Pow(a, e); got != Of(1) {
				t.Errorf("Pow(%x, %x): %x", a, e, got)
			}
		}
	}
	if got := Pow(api.Fr{}, []uint64{0, 1}); got != (api.Fr{}) {
		t.Errorf("0^(2^64): %x", got)
	}
}

func TestPowMindsNoNoughtsOnTop(t *testing.T) {
	m := mixer(6)
	for range 50 {
		a, e := m.scalar(), m.number(3)
		want := Pow(a, e)
		for n := range api.MaxLimbs - 2 {
			if got := Pow(a, padded(n, e...)); got != want {
				t.Errorf("Pow(%x, %x) with %d noughts on top: %x", a, e, n, got)
			}
		}
	}
}

// P2.1: Inv.

func TestInv(t *testing.T) {
	m := mixer(7)
	list := scalars()
	for range 300 {
		list = append(list, m.scalar())
	}
	for _, a := range list {
		if a == (api.Fr{}) {
			continue
		}
		got, e := Inv(a)
		if e != api.OK || got != limbsOf(new(big.Int).ModInverse(bigOf(a[:]), modulus())) {
			t.Errorf("Inv(%x): %x, error %d", a, got, e)
		}
		if Mul(a, got) != Of(1) {
			t.Errorf("%x by its inverse: %x", a, Mul(a, got))
		}
	}
}

func TestInvOfNought(t *testing.T) {
	got, e := Inv(api.Fr{})
	refused(t, "Inv(0)", got, e, api.ErrZero)
}

// What follows: a field.

func TestField(t *testing.T) {
	m := mixer(8)
	list := scalars()
	for range 10 {
		list = append(list, m.scalar())
	}
	for _, a := range list {
		for _, b := range list {
			c := m.scalar()
			for what, holds := range map[string]bool{
				"a + b is b + a":             Add(a, b) == Add(b, a),
				"a b is b a":                 Mul(a, b) == Mul(b, a),
				"(a + b) + c is a + (b + c)": Add(Add(a, b), c) == Add(a, Add(b, c)),
				"(a b) c is a (b c)":         Mul(Mul(a, b), c) == Mul(a, Mul(b, c)),
				"a (b + c) is a b + a c":     Mul(a, Add(b, c)) == Add(Mul(a, b), Mul(a, c)),
				"a - b is a + -b":            Sub(a, b) == Add(a, Neg(b)),
				"a + 0 is a":                 Add(a, api.Fr{}) == a,
				"a 1 is a":                   Mul(a, Of(1)) == a,
			} {
				if !holds {
					t.Errorf("%s: %x, %x, %x", what, a, b, c)
				}
			}
		}
	}
}

func TestAnswersMayBe(t *testing.T) {
	pairs(func(a, b api.Fr) {
		for _, x := range []api.Fr{Add(a, b), Sub(a, b), Neg(a), Mul(a, b)} {
			if !May(x) {
				t.Errorf("of %x, %x: %x", a, b, x)
			}
		}
	})
}

// P2.2: Root.

func TestRootIsAPowerOfSeven(t *testing.T) {
	less := new(big.Int).Sub(modulus(), big.NewInt(1))
	for log := 0; log <= 32; log++ {
		want := new(big.Int).Exp(big.NewInt(7), new(big.Int).Rsh(less, uint(log)), modulus())
		if got, e := Root(log); e != api.OK || got != limbsOf(want) {
			t.Errorf("Root(%d): %x, error %d, not %x", log, got, e, limbsOf(want))
		}
	}
}

func TestRootsAtTheEnds(t *testing.T) {
	for _, x := range []struct {
		log  int
		want api.Fr
	}{
		{0, Of(1)},
		{1, near(-1)},
		{32, api.Fr{0x3829971f439f0d2b, 0xb63683508c2280b9, 0xd09b681922c813b4, 0x16a2a19edfe81f20}},
	} {
		if got, e := Root(x.log); got != x.want || e != api.OK {
			t.Errorf("Root(%d): %x, error %d", x.log, got, e)
		}
	}
}

func TestRootRefusesOtherLogs(t *testing.T) {
	for _, log := range []int{-1, -2, -32, 33, 34, 64, 1 << 32, math.MinInt, math.MaxInt} {
		got, e := Root(log)
		refused(t, "Root", got, e, api.ErrArg)
	}
}

// What follows: Root(log) has the order 2^log.
func TestRootsHaveTheirOrder(t *testing.T) {
	for log := 1; log <= 32; log++ {
		root, _ := Root(log)
		before, _ := Root(log - 1)
		if Mul(root, root) != before {
			t.Errorf("Root(%d) squared is not Root(%d)", log, log-1)
		}
		if Pow(root, []uint64{1 << log}) != Of(1) || Pow(root, []uint64{1 << (log - 1)}) != near(-1) {
			t.Errorf("the order of Root(%d)", log)
		}
	}
	root, _ := Root(5)
	seen := []api.Fr{Of(1)}
	for x := root; x != Of(1) && len(seen) <= 32; x = Mul(x, root) {
		if slices.Contains(seen, x) {
			t.Errorf("Root(5) comes to %x twice", x)
		}
		seen = append(seen, x)
	}
	if len(seen) != 32 {
		t.Errorf("Root(5) has %d powers", len(seen))
	}
}
