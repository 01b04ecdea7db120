package pairing

import (
	"math/big"
	"testing"

	"intaglio/api"
)

// The way: the power (P^12 - 1) / R, in three steps.

// sixes are numbers that are not 0: at the edges, and mixed ones.
func sixes(seed mixer, n int) []api.Fp12 {
	var out []api.Fp12
	for i := range 12 {
		var a api.Fp12
		a[i/6][i/2%3][i%2] = api.Fp{1}
		out = append(out, a)
	}
	for range n {
		out = append(out, seed.six())
	}
	return out
}

func TestToP(t *testing.T) {
	t.Parallel()
	for _, a := range append(sixes(60, 10), api.Fp12{}) {
		if got, want := toP(a), plainOf(a).pow(prime).six(); got != want {
			t.Errorf("%x: %x, not %x", a, got, want)
		}
	}
}

func TestTurn(t *testing.T) {
	t.Parallel()
	sixth := new(big.Int).Sub(prime, big.NewInt(1))
	sixth.Div(sixth, big.NewInt(6))
	if got := small(1, 1).pow(sixth).pair(); got != turn {
		t.Errorf("%x, not %x", turn, got)
	}
}

func TestEasyPower(t *testing.T) {
	t.Parallel()
	e := new(big.Int).Sub(toThe(6), big.NewInt(1))
	e.Mul(e, new(big.Int).Add(toThe(2), big.NewInt(1)))
	for _, a := range sixes(61, 3) {
		if got, want := easy(a), plainOf(a).pow(e).six(); got != want {
			t.Errorf("%x: %x, not %x", a, got, want)
		}
	}
}

func TestHardPower(t *testing.T) {
	t.Parallel()
	e := new(big.Int).Sub(toThe(4), toThe(2))
	e, rest := e.DivMod(e.Add(e, big.NewInt(1)), order, new(big.Int))
	if rest.Sign() != 0 {
		t.Fatal("R does not divide P^4 - P^2 + 1")
	}
	for _, a := range sixes(62, 5) {
		a = easy(a)
		if got, want := hard(a), plainOf(a).pow(e).six(); got != want {
			t.Errorf("%x: %x, not %x", a, got, want)
		}
	}
}

func TestPower(t *testing.T) {
	t.Parallel()
	e := lastPower()
	if n := new(big.Int).Mul(e, order); n.Add(n, big.NewInt(1)).Cmp(toThe(12)) != 0 {
		t.Fatal("R does not divide P^12 - 1")
	}
	for _, a := range sixes(63, 3) {
		if got, want := power(a), plainOf(a).pow(e).six(); got != want {
			t.Errorf("%x: %x, not %x", a, got, want)
		}
	}
}

// What is left out of the loop, and what may be a six without w, the power
// makes 1.
func TestPowerOfSixesWithoutW(t *testing.T) {
	t.Parallel()
	m := mixer(64)
	for range 5 {
		if a := m.six(); power(api.Fp12{a[0]}) != one {
			t.Errorf("%x: %x", a[0], power(api.Fp12{a[0]}))
		}
	}
}
