package fp

import (
	"bytes"
	"slices"
	"testing"

	"intaglio/api"
)

// R3 and R4: nothing that is handed in is changed or kept, what is told is new
// memory, and a call answers the same again.

// untouched hands do a list with spare room, and fails if it changed the list
// or the room, or if it answers otherwise when both have been changed and the
// same list comes anew.
func untouched[T uint64 | byte](t *testing.T, what string, list []T, do func(l []T) (api.Fp, api.Errno)) {
	t.Helper()
	whole := append(slices.Clone(list), 77, 77, 77)
	first, e := do(whole[:len(list)])
	if !slices.Equal(whole, append(slices.Clone(list), 77, 77, 77)) {
		t.Errorf("%s: what was handed in has changed: %x", what, whole)
	}
	for i := range whole {
		whole[i] ^= 0x33
	}
	if again, f := do(slices.Clone(list)); again != first || f != e {
		t.Errorf("%s: %x, error %d, then %x, error %d", what, first, e, again, f)
	}
}

func TestListsAreLeftAsTheyWere(t *testing.T) {
	m := mixer(12)
	for _, e := range exponents() {
		a := m.number()
		untouched(t, "Pow", e, func(e []uint64) (api.Fp, api.Errno) { return Pow(a, e), api.OK })
	}
	for _, b := range [][]byte{nil, {}, {1}, make([]byte, 47), make([]byte, 48), above(-1), above(0), make([]byte, 49), bytes.Repeat([]byte{200}, 64)} {
		untouched(t, "Take", b, Take)
	}
}

func TestPIsNewMemory(t *testing.T) {
	p := P()
	clear(p[:cap(p)])
	if bigOf(P()).Cmp(modulus()) != 0 {
		t.Errorf("P: %x", P())
	}
	if got := Add(near(-1), Of(1)); got != (api.Fp{}) {
		t.Errorf("P - 1 + 1: %x", got)
	}
	if got, e := Inv(Of(1)); got != Of(1) || e != api.OK {
		t.Errorf("Inv(1): %x, error %d", got, e)
	}
}

func TestPutIsNewMemory(t *testing.T) {
	a := near(-5)
	first, second := Put(a), Put(a)
	clear(first[:cap(first)])
	if !bytes.Equal(second, above(-5)) || !bytes.Equal(Put(a), above(-5)) || a != near(-5) {
		t.Errorf("Put: %x, then %x", second, Put(a))
	}
}

func TestSqrtAndGreatAnswerTheSameAgain(t *testing.T) {
	for _, a := range many(16, 20) {
		root, yes := Sqrt(a)
		want := root
		root[0]++
		if again, still := Sqrt(a); again != want || still != yes {
			t.Errorf("Sqrt(%x): %x, %t, then %x, %t", a, want, yes, again, still)
		}
		if first, again := Great(a), Great(a); first != again {
			t.Errorf("Great(%x): %t, then %t", a, first, again)
		}
	}
}

// R1: of what is not below P, and beyond the limits, calls still end, and none
// panics; R2 still holds.

func TestWhatIsNotBelowP(t *testing.T) {
	for _, a := range strange() {
		for _, b := range append(strange(), numbers()...) {
			Add(a, b)
			Add(b, a)
			Sub(a, b)
			Sub(b, a)
			Mul(a, b)
			Mul(b, a)
		}
		Neg(a)
		Great(a)
		Pow(a, full(api.MaxLimbs))
		if got, e := Inv(a); e != api.OK && got != (api.Fp{}) {
			t.Errorf("Inv(%x): %x, error %d", a, got, e)
		}
		if got, yes := Sqrt(a); !yes && got != (api.Fp{}) {
			t.Errorf("Sqrt(%x): %x, %t", a, got, yes)
		}
		if got := Put(a); len(got) != 48 {
			t.Errorf("Put(%x): %d bytes", a, len(got))
		}
	}
}

func TestBeyondTheLimits(t *testing.T) {
	Pow(Of(3), full(4*api.MaxLimbs))
	if got := Pow(Of(3), padded(4*api.MaxLimbs, 2)); got != Of(9) {
		t.Errorf("3^2 with many noughts on top: %x", got)
	}
}
