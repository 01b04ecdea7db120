package fp12

import (
	"slices"
	"testing"

	"intaglio/api"
)

// R3 and R4: nothing that is handed in is changed or kept, and a call answers
// the same again, whatever was asked in between.

func TestExponentsAreLeftAsTheyWere(t *testing.T) {
	m := mixer(21)
	for _, e := range exponents() {
		a := m.number()
		whole := append(slices.Clone(e), 77, 77, 77)
		first := Pow(a, whole[:len(e)])
		if !slices.Equal(whole, append(slices.Clone(e), 77, 77, 77)) {
			t.Errorf("Pow: what was handed in has changed: %x", whole)
		}
		for i := range whole {
			whole[i] ^= 0x33
		}
		if again := Pow(a, slices.Clone(e)); again != first {
			t.Errorf("Pow(%x, %x): %x, then %x", a, e, first, again)
		}
	}
}

func TestAnswersAreTheSameAgain(t *testing.T) {
	m := mixer(22)
	e := []uint64{most, 5}
	for _, a := range some(23) {
		b := m.number()
		before, beside := a, b
		sum, less, product, back, power, may := Add(a, b), Sub(a, b), Mul(a, b), Conj(a), Pow(a, e), May(a)
		inverse, no := Inv(a)
		if a != before || b != beside {
			t.Errorf("%x and %x are now %x and %x", before, beside, a, b)
		}
		Mul(b, b)
		Inv(b)
		Pow(b, e)
		if Add(a, b) != sum || Sub(a, b) != less || Mul(a, b) != product || Conj(a) != back || Pow(a, e) != power || May(a) != may {
			t.Errorf("of %x another answer", a)
		}
		if again, f := Inv(a); again != inverse || f != no {
			t.Errorf("Inv(%x): %x, error %d, then %x, error %d", a, inverse, no, again, f)
		}
	}
}

func TestOneIsNewEachTime(t *testing.T) {
	first := One()
	first[0][0][0][0], first[1][2][1][5] = 9, 9
	if One() != one || Pow(w, nil) != one {
		t.Errorf("One: %x, w^0: %x", One(), Pow(w, nil))
	}
}

// R1: of parts that are not below P, and beyond the limits, calls still end,
// and none panics; R2 still holds.

func TestPartsThatAreNotBelowP(t *testing.T) {
	others := append(strange()[:20], some(24)[:20]...)
	for _, a := range strange() {
		for _, b := range others {
			Add(a, b)
			Add(b, a)
			Sub(a, b)
			Sub(b, a)
			Mul(a, b)
			Mul(b, a)
		}
		Conj(a)
		Pow(a, full(2))
		if got, e := Inv(a); e != api.OK && got != (api.Fp12{}) {
			t.Errorf("Inv(%x): %x, error %d", a, got, e)
		}
	}
}

func TestBeyondTheLimits(t *testing.T) {
	Pow(Add(one, w), full(4*api.MaxLimbs))
	if got := Pow(Add(one, w), padded(4*api.MaxLimbs, 2)); got != (api.Fp12{{{{1}}, {{1}}}, {{{2}}}}) {
		t.Errorf("(1 + w)^2 with many noughts on top: %x", got)
	}
}
