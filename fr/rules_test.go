package fr

import (
	"bytes"
	"math/big"
	"slices"
	"testing"

	"intaglio/api"
)

// R3 and R4: nothing that is handed in is changed or kept, what is told is new
// memory, and a call answers the same again.

// untouched hands do a list with spare room, and fails if it changed the list
// or the room, or if it answers otherwise when both have been changed and the
// same list comes anew.
func untouched[T uint64 | byte](t *testing.T, what string, list []T, do func(l []T) (api.Fr, api.Errno)) {
	t.Helper()
	whole := append(slices.Clone(list), 77, 77, 77)
	first, e := do(whole[:len(list)])
	if !slices.Equal(whole, append(slices.Clone(list), 77, 77, 77)) {
		t.Errorf("%s: what was handed in has changed: %x", what, whole)
	}
	for i := range whole {
		whole[i] ^= 0x33
	}
	if again, f := do(slices.Clone(list)); again != first || f != e {
		t.Errorf("%s: %x, error %d, then %x, error %d", what, first, e, again, f)
	}
}

func TestListsAreLeftAsTheyWere(t *testing.T) {
	m := mixer(12)
	for _, e := range exponents() {
		a := m.scalar()
		untouched(t, "Pow", e, func(e []uint64) (api.Fr, api.Errno) { return Pow(a, e), api.OK })
	}
	for _, b := range [][]byte{nil, {}, {1}, make([]byte, 31), make([]byte, 32), above(-1), above(0), make([]byte, 33), bytes.Repeat([]byte{200}, 64), bytes.Repeat([]byte{255}, 192)} {
		untouched(t, "Take", b, Take)
		untouched(t, "Wide", b, func(b []byte) (api.Fr, api.Errno) { return Wide(b), api.OK })
	}
}

func TestRIsNewMemory(t *testing.T) {
	r := R()
	clear(r[:cap(r)])
	if bigOf(R()).Cmp(modulus()) != 0 {
		t.Errorf("R: %x", R())
	}
	if got := Add(near(-1), Of(1)); got != (api.Fr{}) {
		t.Errorf("R - 1 + 1: %x", got)
	}
	if got := Wide(above(2)); got != Of(2) {
		t.Errorf("Wide(R + 2): %x", got)
	}
}

func TestPutIsNewMemory(t *testing.T) {
	a := near(-5)
	first, second := Put(a), Put(a)
	clear(first[:cap(first)])
	if !bytes.Equal(second, above(-5)) || !bytes.Equal(Put(a), above(-5)) || a != near(-5) {
		t.Errorf("Put: %x, then %x", second, Put(a))
	}
}

func TestRootAnswersTheSameAgain(t *testing.T) {
	root, _ := Root(32)
	want := root
	root[0]++
	if again, _ := Root(32); again != want {
		t.Errorf("Root(32): %x, then %x", want, again)
	}
}

// R1: of what is no scalar, and beyond the limits, calls still end, and none
// panics; R2 still holds.

func TestWhatIsNoScalar(t *testing.T) {
	odd := []api.Fr{near(0), near(1), {most, most, most, most}, {0, 0, 0, 1 << 63}, {0, 0, 0, most}}
	for _, a := range odd {
		for _, b := range append(odd, scalars()...) {
			Add(a, b)
			Add(b, a)
			Sub(a, b)
			Sub(b, a)
			Mul(a, b)
			Mul(b, a)
		}
		Neg(a)
		Pow(a, full(api.MaxLimbs))
		if got, e := Inv(a); e != api.OK && got != (api.Fr{}) {
			t.Errorf("Inv(%x): %x, error %d", a, got, e)
		}
		if got := Put(a); len(got) != 32 {
			t.Errorf("Put(%x): %d bytes", a, len(got))
		}
	}
}

func TestBeyondTheLimits(t *testing.T) {
	Pow(Of(3), full(4*api.MaxLimbs))
	if got := Pow(Of(3), padded(4*api.MaxLimbs, 2)); got != Of(9) {
		t.Errorf("3^2 with many noughts on top: %x", got)
	}
	Wide(bytes.Repeat([]byte{255}, 5000))
	is(t, "Wide of 193 noughts and a 4", Wide(append(make([]byte, 193), 4)), big.NewInt(4))
}
