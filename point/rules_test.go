package point

import (
	"bytes"
	"math/big"
	"slices"
	"testing"

	"intaglio/api"
	"intaglio/g1"
	"intaglio/g2"
)

// R3 and R4: nothing that is handed in is changed or kept, what is told is new
// memory, and a call answers the same again.

// untouched hands take a text with spare room, and fails if it changed the
// text or the room, or if it answers otherwise when both have been changed
// and the same text comes anew.
func untouched[G comparable](t *testing.T, b []byte, take func(b []byte) (G, api.Errno)) {
	t.Helper()
	whole := append(slices.Clone(b), 77, 77, 77)
	first, e := take(whole[:len(b)])
	if !bytes.Equal(whole, append(slices.Clone(b), 77, 77, 77)) {
		t.Errorf("what was handed in has changed: %x", whole)
	}
	for i := range whole {
		whole[i] ^= 0x33
	}
	if again, f := take(slices.Clone(b)); again != first || f != e {
		t.Errorf("of %x: %v, error %d, then %v, error %d", b, first, e, again, f)
	}
}

func TestTextsAreLeftAsTheyWere(t *testing.T) {
	texts := [][]byte{nil, {}, {0xc0}, make([]byte, 47), make([]byte, 48), make([]byte, 96), make([]byte, 97), bytes.Repeat([]byte{255}, 48), bytes.Repeat([]byte{255}, 96)}
	for _, p := range slices.Concat(inside1()[:6], outside1()[:6]) {
		texts = append(texts, text1(p))
	}
	for _, p := range slices.Concat(inside2()[:6], outside2()[:6]) {
		texts = append(texts, text2(p))
	}
	for _, great := range []bool{false, true} {
		texts = append(texts, written(true, false, great, nearP(0)), written(true, false, great, big.NewInt(1)), written(true, false, great, big.NewInt(1), nearP(0)))
	}
	for _, b := range texts {
		untouched(t, b, Take1)
		untouched(t, b, Take2)
	}
}

func TestPutsAreNewMemory(t *testing.T) {
	for _, p := range []api.G1{inf1, g1.One(), g1.Neg(g1.One())} {
		first, second := Put1(p), Put1(p)
		clear(first[:cap(first)])
		if !bytes.Equal(second, text1(p)) || !bytes.Equal(Put1(p), text1(p)) {
			t.Errorf("Put1(%v): %x, then %x", p, second, Put1(p))
		}
	}
	for _, p := range []api.G2{inf2, g2.One(), g2.Neg(g2.One())} {
		first, second := Put2(p), Put2(p)
		clear(first[:cap(first)])
		if !bytes.Equal(second, text2(p)) || !bytes.Equal(Put2(p), text2(p)) {
			t.Errorf("Put2(%v): %x, then %x", p, second, Put2(p))
		}
	}
}

// R1: of what is not On calls still end, and none panics.

func TestWhatIsNotOn(t *testing.T) {
	full := api.Fp{most, most, most, most, most, most}
	parts := []api.Fp{{}, {1}, numberOf(nearP(-1)), numberOf(nearP(0)), numberOf(nearP(1)), {0, 0, 0, 0, 0, 1 << 63}, full}
	for _, x := range parts {
		for _, y := range parts {
			for _, inf := range []bool{false, true} {
				Put1(api.G1{X: x, Y: y, Inf: inf})
				Put2(api.G2{X: api.Fp2{x, y}, Y: api.Fp2{y, x}, Inf: inf})
				Put2(api.G2{X: api.Fp2{y, x}, Y: api.Fp2{x, x}, Inf: inf})
			}
		}
	}
}

func TestGreatTexts(t *testing.T) {
	b := bytes.Repeat([]byte{0xc0}, 1<<20)
	refused1(t, b, api.ErrLong)
	refused2(t, b, api.ErrLong)
}
