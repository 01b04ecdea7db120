package point

import (
	"bytes"
	"math/big"
	"slices"
	"testing"

	"intaglio/api"
	"intaglio/fp"
	"intaglio/fp2"
	"intaglio/g1"
	"intaglio/g2"
)

// P10.2: Take1 and Take2. Each point In has one text, and is read from it.

func TestTake1ReadsWhatIsIn(t *testing.T) {
	for _, p := range inside1() {
		for _, q := range []api.G1{p, g1.Neg(p)} {
			takes1(t, text1(q), q, api.OK)
			takes1(t, Put1(q), q, api.OK)
		}
	}
}

func TestTake2ReadsWhatIsIn(t *testing.T) {
	for _, p := range inside2() {
		for _, q := range []api.G2{p, g2.Neg(p)} {
			takes2(t, text2(q), q, api.OK)
			takes2(t, Put2(q), q, api.OK)
		}
	}
}

// A length is told ahead of what the bytes are.
func TestOtherLengths(t *testing.T) {
	for _, first := range []byte{0, 0x80, 0xa0, 0xc0, 255} {
		for _, fill := range []byte{0, 1, 255} {
			text := func(n int) []byte {
				b := bytes.Repeat([]byte{fill}, n)
				copy(b, []byte{first})
				return b
			}
			for n := range 96 {
				refused2(t, text(n), api.ErrShort)
			}
			for n := range 48 {
				refused1(t, text(n), api.ErrShort)
			}
			for _, n := range []int{97, 98, 144, 192, 193, 1 << 12} {
				refused1(t, text(n), api.ErrLong)
				refused2(t, text(n), api.ErrLong)
			}
			for n := 49; n <= 96; n++ {
				refused1(t, text(n), api.ErrLong)
			}
		}
	}
	refused1(t, nil, api.ErrShort)
	refused2(t, nil, api.ErrShort)
}

func TestTextsThatEndTooSoonOrGoOn(t *testing.T) {
	a, b := Put1(g1.One()), Put2(g2.One())
	refused1(t, a[:47], api.ErrShort)
	refused1(t, append(slices.Clone(a), 0), api.ErrLong)
	refused1(t, append([]byte{0}, a...), api.ErrLong)
	refused1(t, b, api.ErrLong)
	refused2(t, b[:95], api.ErrShort)
	refused2(t, b[:48], api.ErrShort)
	refused2(t, a, api.ErrShort)
	refused2(t, append(slices.Clone(b), 0), api.ErrLong)
	refused2(t, slices.Concat(a, a, a), api.ErrLong)
}

// numbers1 are X's of which some are of places and some are not, and some are
// not below P: the marks are told ahead of them.
func numbers1() []*big.Int {
	g := g1.One()
	return []*big.Int{big.NewInt(0), big.NewInt(1), big.NewInt(2), bigOf(g.X[:]), nearP(-1), nearP(0), nearP(1), new(big.Int).Sub(new(big.Int).Lsh(big.NewInt(1), 381), big.NewInt(1))}
}

func TestFirstBitIsNought(t *testing.T) {
	g := twoOf(g2.One().X)
	for _, inf := range []bool{false, true} {
		for _, great := range []bool{false, true} {
			for _, x := range numbers1() {
				refused1(t, written(false, inf, great, x), api.ErrForm)
				refused2(t, written(false, inf, great, x, g[0]), api.ErrForm)
				refused2(t, written(false, inf, great, g[1], x), api.ErrForm)
			}
			refused2(t, written(false, inf, great, g[1], g[0]), api.ErrForm)
		}
	}
}

func TestInfWithAnotherBitSet(t *testing.T) {
	for i := range 384 {
		b := Put1(inf1)
		b[i/8] ^= 0x80 >> (i % 8)
		want := api.ErrForm
		if i == 1 { // without its mark it is the text of 0
			want = api.ErrGroup
		}
		refused1(t, b, want)
	}
	for i := range 768 {
		b := Put2(inf2)
		b[i/8] ^= 0x80 >> (i % 8)
		want := api.ErrForm
		if i == 1 {
			want = api.ErrCurve
		}
		refused2(t, b, want)
	}
}

func TestInfWithNumbers(t *testing.T) {
	for _, great := range []bool{false, true} {
		for _, x := range numbers1() {
			if x.Sign() == 0 && !great {
				continue
			}
			refused1(t, written(true, true, great, x), api.ErrForm)
			refused2(t, written(true, true, great, x, new(big.Int)), api.ErrForm)
			refused2(t, written(true, true, great, new(big.Int), x), api.ErrForm)
			refused2(t, written(true, true, great, x, x), api.ErrForm)
		}
	}
	refused1(t, bytes.Repeat([]byte{255}, 48), api.ErrForm)
	refused2(t, bytes.Repeat([]byte{255}, 96), api.ErrForm)
}

func TestNumbersThatAreNotBelowP(t *testing.T) {
	g := g1.One()
	again := new(big.Int).Add(bigOf(g.X[:]), prime) // g1's X but for P
	top := new(big.Int).Sub(new(big.Int).Lsh(big.NewInt(1), 381), big.NewInt(1))
	pair := twoOf(g2.One().X)
	for _, great := range []bool{false, true} {
		for _, x := range []*big.Int{nearP(0), nearP(1), nearP(2), again, top} {
			if x.BitLen() <= 381 { // else it runs into the marks
				refused1(t, written(true, false, great, x), api.ErrBig)
				refused2(t, written(true, false, great, x, pair[0]), api.ErrBig)
				refused2(t, written(true, false, great, x, nearP(0)), api.ErrBig)
				refused2(t, written(true, false, great, x, new(big.Int)), api.ErrBig)
			}
			refused2(t, written(true, false, great, pair[1], x), api.ErrBig)
			refused2(t, written(true, false, great, new(big.Int), x), api.ErrBig)
		}
	}
}

// X0 has no marks: bits on top of it make it great.
func TestTake2MarksOnTopOfX0(t *testing.T) {
	for _, p := range []api.G2{g2.One(), g2.Neg(g2.One())} {
		for _, bit := range []byte{0x20, 0x40, 0x80, 0xa0, 0xc0, 0xe0} {
			b := Put2(p)
			b[48] |= bit
			refused2(t, b, api.ErrBig)
		}
	}
	b := Put2(inf2)
	b[48] = 0xc0
	refused2(t, b, api.ErrForm)
}

func TestNoSuchPoint(t *testing.T) {
	m := mixer(10)
	left := 60
	for left > 0 {
		x, pair := m.number(), two{m.number(), m.number()}
		if _, is := at1(x, false); !is {
			refused1(t, written(true, false, left%2 == 0, x), api.ErrCurve)
			left--
		}
		if _, is := at2(pair, false); !is {
			refused2(t, written(true, false, left%2 == 0, pair[1], pair[0]), api.ErrCurve)
			left--
		}
	}
	for _, great := range []bool{false, true} {
		refused1(t, written(true, false, great, big.NewInt(1)), api.ErrCurve)
		refused2(t, written(true, false, great, new(big.Int), new(big.Int)), api.ErrCurve)
	}
}

func TestPointsThatAreNotIn(t *testing.T) {
	for _, p := range outside1() {
		refused1(t, text1(p), api.ErrGroup)
		refused1(t, text1(g1.Neg(p)), api.ErrGroup)
	}
	for _, p := range slices.Concat(outside2(), flats()) {
		refused2(t, text2(p), api.ErrGroup)
		refused2(t, text2(g2.Neg(p)), api.ErrGroup)
	}
}

// Of Take2 the numbers stand X1 first: the other way round they are another
// place, or none.
func TestTake2ReadsX1First(t *testing.T) {
	for _, p := range inside2()[1:] {
		x := twoOf(p.X)
		b := written(true, false, twoOf(p.Y).isGreat(), x[0], x[1])
		want := api.ErrCurve
		if _, is := at2(two{x[1], x[0]}, false); is {
			want = api.ErrGroup
		}
		refused2(t, b, want)
	}
}

// No place has a Y that is 0; what would be said of it is asked of the step
// that chooses Y.
func TestNoughtIsNotGreat(t *testing.T) {
	if y, e := side(api.Fp{}, true, fp.Neg); y != (api.Fp{}) || e != api.ErrForm {
		t.Errorf("a Great 0: %x, error %d", y, e)
	}
	if y, e := side(api.Fp{}, false, fp.Neg); y != (api.Fp{}) || e != api.OK {
		t.Errorf("0: %x, error %d", y, e)
	}
	if y, e := side(api.Fp2{}, true, fp2.Neg); y != (api.Fp2{}) || e != api.ErrForm {
		t.Errorf("a Great 0: %x, error %d", y, e)
	}
	if y, e := side(api.Fp2{}, false, fp2.Neg); y != (api.Fp2{}) || e != api.OK {
		t.Errorf("0: %x, error %d", y, e)
	}
	// One that is not 0, though one of its parts is.
	if y, e := side(api.Fp2{{}, {1}}, true, fp2.Neg); y != (api.Fp2{{}, numberOf(nearP(-1))}) || e != api.OK {
		t.Errorf("a Great u: %x, error %d", y, e)
	}
}

// Each text that is read is the one that is written.

func TestOneBitChanged(t *testing.T) {
	for _, p := range inside1()[:5] {
		for i := range 384 {
			b := text1(p)
			b[i/8] ^= 0x80 >> (i % 8)
			asWanted(t, b)
		}
	}
	for _, p := range inside2()[:2] {
		for i := range 768 {
			b := text2(p)
			b[i/8] ^= 0x80 >> (i % 8)
			asWanted(t, b)
		}
	}
}

func TestMixedTexts(t *testing.T) {
	m := mixer(11)
	for range 200 {
		a, b := m.bytes(48), m.bytes(96)
		asWanted(t, a)
		asWanted(t, b)
		// Else hardly a number is below P.
		a[0] = 0x80 | a[0]&0x20 | a[0]&0x1f%0x1a
		asWanted(t, a)
		b[0] = 0x80 | b[0]&0x20 | b[0]&0x1f%0x1a
		asWanted(t, b)
		b[48] %= 0x1a
		asWanted(t, b)
	}
}

func TestAllFirstBytes(t *testing.T) {
	a, b := Put1(g1.One()), Put2(g2.One())
	for first := range 256 {
		a[0], b[0] = byte(first), byte(first)
		asWanted(t, a)
		asWanted(t, b)
		asWanted(t, append([]byte{byte(first)}, make([]byte, 47)...))
		asWanted(t, append([]byte{byte(first)}, make([]byte, 95)...))
	}
}
