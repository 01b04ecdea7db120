package fr

import (
	"bytes"
	"math/big"
	"testing"

	"intaglio/api"
)

// P2.2: Put and Take.

// written is n in 32 bytes, by the library.
func written(n *big.Int) []byte {
	return n.FillBytes(make([]byte, 32))
}

// above is R + d in 32 bytes.
func above(d int64) []byte {
	return written(new(big.Int).Add(modulus(), big.NewInt(d)))
}

func TestPutWritesTheHighestFirst(t *testing.T) {
	a := api.Fr{0x191a1b1c1d1e1f20, 0x1112131415161718, 0x090a0b0c0d0e0f10, 0x0102030405060708}
	want := make([]byte, 32)
	for i := range want {
		want[i] = byte(i + 1)
	}
	if got := Put(a); !bytes.Equal(got, want) {
		t.Errorf("Put: %x", got)
	}
	if got := Put(Of(1)); len(got) != 32 || got[31] != 1 || got[0] != 0 {
		t.Errorf("Put(1): %x", got)
	}
	if got := Put(api.Fr{}); !bytes.Equal(got, make([]byte, 32)) {
		t.Errorf("Put(0): %x", got)
	}
	if got := Put(near(-1)); !bytes.Equal(got, above(-1)) {
		t.Errorf("Put(R - 1): %x", got)
	}
}

func TestPutAndTakeAreOneText(t *testing.T) {
	pairs(func(a, _ api.Fr) {
		text := Put(a)
		if !bytes.Equal(text, written(bigOf(a[:]))) {
			t.Errorf("Put(%x): %x", a, text)
		}
		got, e := Take(text)
		if got != a || e != api.OK {
			t.Errorf("Take(%x): %x, error %d", text, got, e)
		}
	})
}

func TestTakeReadsJustWhatIsBelowR(t *testing.T) {
	m := mixer(9)
	for range 3000 {
		n := bigOf(m.number(4))
		text := written(n)
		got, e := Take(text)
		if n.Cmp(modulus()) >= 0 {
			refused(t, "Take", got, e, api.ErrBig)
			continue
		}
		if got != limbsOf(n) || e != api.OK || !bytes.Equal(Put(got), text) {
			t.Errorf("Take(%x): %x, error %d", text, got, e)
		}
	}
}

func TestTakeAtTheEdges(t *testing.T) {
	for _, d := range []int64{-1, -2} {
		if got, e := Take(above(d)); got != near(d) || e != api.OK {
			t.Errorf("Take(R - %d): %x, error %d", -d, got, e)
		}
	}
	if got, e := Take(make([]byte, 32)); got != (api.Fr{}) || e != api.OK {
		t.Errorf("Take(0): %x, error %d", got, e)
	}
	for _, b := range [][]byte{above(0), above(1), bytes.Repeat([]byte{255}, 32)} {
		got, e := Take(b)
		refused(t, "not below R", got, e, api.ErrBig)
	}
}

// A length is told ahead of what the bytes are.
func TestTakeRefusesOtherLengths(t *testing.T) {
	for _, fill := range []byte{0, 1, 255} {
		for n := range 32 {
			got, e := Take(bytes.Repeat([]byte{fill}, n))
			refused(t, "fewer than 32 bytes", got, e, api.ErrShort)
		}
		for _, n := range []int{33, 34, 48, 64, 192, 193, 1 << 12} {
			got, e := Take(bytes.Repeat([]byte{fill}, n))
			refused(t, "more than 32 bytes", got, e, api.ErrLong)
		}
	}
	got, e := Take(nil)
	refused(t, "nil", got, e, api.ErrShort)
	got, e = Take(append([]byte{0}, Put(Of(5))...))
	refused(t, "a nought ahead", got, e, api.ErrLong)
}

// P2.2: Wide.

func TestWide(t *testing.T) {
	m := mixer(10)
	for n := range 193 {
		many := make([]byte, n)
		for i := range many {
			many[i] = byte(m.next())
		}
		for _, b := range [][]byte{
			make([]byte, n),
			bytes.Repeat([]byte{255}, n),
			append(make([]byte, n/2), bytes.Repeat([]byte{255}, n-n/2)...),
			append(bytes.Repeat([]byte{255}, n/2), make([]byte, n-n/2)...),
			many,
		} {
			is(t, "Wide", Wide(b), new(big.Int).SetBytes(b))
		}
	}
}

func TestWideAtTheEdges(t *testing.T) {
	for _, x := range []struct {
		b    []byte
		want api.Fr
	}{
		{nil, api.Fr{}},
		{[]byte{}, api.Fr{}},
		{[]byte{0}, api.Fr{}},
		{[]byte{5}, Of(5)},
		{[]byte{1, 2}, Of(258)},
		{make([]byte, 192), api.Fr{}},
		{append(make([]byte, 191), 9), Of(9)},
		{above(-1), near(-1)},
		{above(0), api.Fr{}},
		{above(1), Of(1)},
		{append(make([]byte, 160), above(-1)...), near(-1)},
		{append(make([]byte, 160), above(7)...), Of(7)},
		{append(above(0), make([]byte, 160)...), api.Fr{}},
		{append(above(0), Put(Of(3))...), Of(3)},
	} {
		if got := Wide(x.b); got != x.want {
			t.Errorf("Wide(%x): %x, not %x", x.b, got, x.want)
		}
	}
}

func TestWideOfATextIsItsNumber(t *testing.T) {
	for _, a := range scalars() {
		if got := Wide(Put(a)); got != a {
			t.Errorf("Wide(Put(%x)): %x", a, got)
		}
	}
}
