package fp2

import (
	"slices"
	"testing"

	"intaglio/api"
)

// R3 and R4: nothing that is handed in is changed or kept, and a call answers
// the same again.

func TestExponentsAreLeftAsTheyWere(t *testing.T) {
	m := mixer(15)
	for _, e := range exponents() {
		a := m.number()
		whole := append(slices.Clone(e), 77, 77, 77)
		first := Pow(a, whole[:len(e)])
		if !slices.Equal(whole, append(slices.Clone(e), 77, 77, 77)) {
			t.Errorf("Pow: what was handed in has changed: %x", whole)
		}
		for i := range whole {
			whole[i] ^= 0x33
		}
		if again := Pow(a, slices.Clone(e)); again != first {
			t.Errorf("Pow(%x, %x): %x, then %x", a, e, first, again)
		}
	}
}

func TestAnswersAreTheSameAgain(t *testing.T) {
	for _, a := range many(16, 20) {
		b, before := Neg(a), a
		sum, less, product, back := Add(a, b), Sub(a, b), Mul(a, b), Conj(a)
		inverse, e := Inv(a)
		root, yes := Sqrt(a)
		great, may := Great(a), May(a)
		if a != before {
			t.Errorf("%x is now %x", before, a)
		}
		if Add(a, b) != sum || Sub(a, b) != less || Mul(a, b) != product || Conj(a) != back || Neg(a) != b || Great(a) != great || May(a) != may {
			t.Errorf("of %x another answer", a)
		}
		if again, f := Inv(a); again != inverse || f != e {
			t.Errorf("Inv(%x): %x, error %d, then %x, error %d", a, inverse, e, again, f)
		}
		if again, still := Sqrt(a); again != root || still != yes {
			t.Errorf("Sqrt(%x): %x, %t, then %x, %t", a, root, yes, again, still)
		}
	}
}

// R1: of parts that are not below P, and beyond the limits, calls still end,
// and none panics; R2 still holds.

func TestPartsThatAreNotBelowP(t *testing.T) {
	others := append(strange()[:20], numbers()[:20]...)
	for _, a := range strange() {
		for _, b := range others {
			Add(a, b)
			Add(b, a)
			Sub(a, b)
			Sub(b, a)
			Mul(a, b)
			Mul(b, a)
		}
		Neg(a)
		Conj(a)
		Great(a)
		Pow(a, full(api.MaxLimbs))
		if got, e := Inv(a); e != api.OK && got != (api.Fp2{}) {
			t.Errorf("Inv(%x): %x, error %d", a, got, e)
		}
		if got, yes := Sqrt(a); !yes && got != (api.Fp2{}) {
			t.Errorf("Sqrt(%x): %x, %t", a, got, yes)
		}
	}
}

func TestBeyondTheLimits(t *testing.T) {
	Pow(api.Fp2{{3}, {1}}, full(4*api.MaxLimbs))
	if got := Pow(api.Fp2{{3}, {1}}, padded(4*api.MaxLimbs, 2)); got != (api.Fp2{{8}, {6}}) {
		t.Errorf("(3 + u)^2 with many noughts on top: %x", got)
	}
}
