package fp

import (
	"bytes"
	"math/big"
	"testing"

	"intaglio/api"
)

// P3.2: Put and Take.

// written is n in 48 bytes, by the library.
func written(n *big.Int) []byte {
	return n.FillBytes(make([]byte, 48))
}

// above is P + d in 48 bytes.
func above(d int64) []byte {
	return written(new(big.Int).Add(modulus(), big.NewInt(d)))
}

func TestPutWritesTheHighestFirst(t *testing.T) {
	a := api.Fp{
		0x292a2b2c2d2e2f30, 0x2122232425262728, 0x191a1b1c1d1e1f20,
		0x1112131415161718, 0x090a0b0c0d0e0f10, 0x0102030405060708,
	}
	want := make([]byte, 48)
	for i := range want {
		want[i] = byte(i + 1)
	}
	if got := Put(a); !bytes.Equal(got, want) {
		t.Errorf("Put: %x", got)
	}
	if got := Put(Of(1)); len(got) != 48 || got[47] != 1 || got[0] != 0 {
		t.Errorf("Put(1): %x", got)
	}
	if got := Put(api.Fp{}); !bytes.Equal(got, make([]byte, 48)) {
		t.Errorf("Put(0): %x", got)
	}
	if got := Put(near(-1)); !bytes.Equal(got, above(-1)) {
		t.Errorf("Put(P - 1): %x", got)
	}
}

func TestPutAndTakeAreOneText(t *testing.T) {
	pairs(func(a, _ api.Fp) {
		text := Put(a)
		if !bytes.Equal(text, written(bigOf(a[:]))) {
			t.Errorf("Put(%x): %x", a, text)
		}
		got, e := Take(text)
		if got != a || e != api.OK {
			t.Errorf("Take(%x): %x, error %d", text, got, e)
		}
	})
}

func TestTakeReadsJustWhatIsBelowP(t *testing.T) {
	m := mixer(9)
	read := 0
	for range 3000 {
		limbs := m.wide(6)
		limbs[5] %= 2 * 0x1a0111ea397fe69a // else hardly one is below P
		n := bigOf(limbs)
		text := written(n)
		got, e := Take(text)
		if n.Cmp(modulus()) >= 0 {
			refused(t, "Take", got, e, api.ErrBig)
			continue
		}
		read++
		if got != limbsOf(n) || e != api.OK || !bytes.Equal(Put(got), text) {
			t.Errorf("Take(%x): %x, error %d", text, got, e)
		}
	}
	if read < 1000 || read > 2500 {
		t.Errorf("%d of 3000 are below P", read)
	}
}

func TestTakeAtTheEdges(t *testing.T) {
	for _, d := range []int64{-1, -2} {
		if got, e := Take(above(d)); got != near(d) || e != api.OK {
			t.Errorf("Take(P - %d): %x, error %d", -d, got, e)
		}
	}
	if got, e := Take(make([]byte, 48)); got != (api.Fp{}) || e != api.OK {
		t.Errorf("Take(0): %x, error %d", got, e)
	}
	for _, b := range [][]byte{above(0), above(1), bytes.Repeat([]byte{255}, 48)} {
		got, e := Take(b)
		refused(t, "not below P", got, e, api.ErrBig)
	}
	// The three highest bits are no part of a number below P.
	for _, bit := range []byte{0x80, 0x40, 0x20} {
		b := Put(Of(5))
		b[0] |= bit
		got, e := Take(b)
		refused(t, "a bit on top", got, e, api.ErrBig)
	}
}

// A length is told ahead of what the bytes are.
func TestTakeRefusesOtherLengths(t *testing.T) {
	for _, fill := range []byte{0, 1, 255} {
		for n := range 48 {
			got, e := Take(bytes.Repeat([]byte{fill}, n))
			refused(t, "fewer than 48 bytes", got, e, api.ErrShort)
		}
		for _, n := range []int{49, 50, 56, 64, 96, 192, 193, 1 << 12} {
			got, e := Take(bytes.Repeat([]byte{fill}, n))
			refused(t, "more than 48 bytes", got, e, api.ErrLong)
		}
	}
	got, e := Take(nil)
	refused(t, "nil", got, e, api.ErrShort)
	got, e = Take(above(0)[1:])
	refused(t, "P without its first byte", got, e, api.ErrShort)
	got, e = Take(append([]byte{0}, Put(Of(5))...))
	refused(t, "a nought ahead", got, e, api.ErrLong)
	got, e = Take(append(above(0), 0))
	refused(t, "P and a nought", got, e, api.ErrLong)
}
