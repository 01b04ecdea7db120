package fp6

import (
	"testing"

	"intaglio/api"
)

// R3 and R4: nothing that is handed in is changed or kept, and a call answers
// the same again, whatever was asked in between.

func TestAnswersAreTheSameAgain(t *testing.T) {
	m := mixer(10)
	for _, a := range some(11) {
		b := m.number()
		before, beside := a, b
		sum, less, product, up, minus, may := Add(a, b), Sub(a, b), Mul(a, b), Up(a), Neg(a), May(a)
		inverse, e := Inv(a)
		if a != before || b != beside {
			t.Errorf("%x and %x are now %x and %x", before, beside, a, b)
		}
		Mul(b, b)
		Up(b)
		Inv(b)
		if Add(a, b) != sum || Sub(a, b) != less || Mul(a, b) != product || Up(a) != up || Neg(a) != minus || May(a) != may {
			t.Errorf("of %x another answer", a)
		}
		if again, f := Inv(a); again != inverse || f != e {
			t.Errorf("Inv(%x): %x, error %d, then %x, error %d", a, inverse, e, again, f)
		}
	}
}

// R1: of parts that are not below P calls still end, and none panics; R2 still
// holds.

func TestPartsThatAreNotBelowP(t *testing.T) {
	others := append(strange()[:20], some(13)...)
	for _, a := range strange() {
		May(a)
		for _, b := range others {
			Add(a, b)
			Add(b, a)
			Sub(a, b)
			Sub(b, a)
			Mul(a, b)
			Mul(b, a)
		}
		Neg(a)
		Up(a)
		if got, e := Inv(a); e != api.OK && got != (api.Fp6{}) {
			t.Errorf("Inv(%x): %x, error %d", a, got, e)
		}
	}
}
