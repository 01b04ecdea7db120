package sha

import (
	"bytes"
	"crypto/sha256"
	"slices"
	"sync"
	"testing"
)

// R3 and R4: nothing that is handed in is changed or kept, spare room does not
// count, what is told is new memory, and a call answers the same again,
// whatever was asked in between.

func TestTextsAreLeftAsTheyWere(t *testing.T) {
	m := mixer(7)
	for _, n := range []int{0, 1, 55, 56, 63, 64, 65, 127, 128, 1000} {
		b := m.text(n)
		whole := append(slices.Clone(b), m.text(150)...)
		held := slices.Clone(whole)
		want := sha256.Sum256(b)
		first := Sum(whole[:n])
		if first != want {
			t.Errorf("%d bytes with spare room: %x, not %x", n, first, want)
		}
		if !bytes.Equal(whole, held) {
			t.Errorf("%d bytes: what was handed in has changed", n)
		}
		for i := range whole {
			whole[i] ^= 0x55
		}
		if other := sha256.Sum256(whole[:n]); Sum(whole[:n]) != other || first != want {
			t.Errorf("%d bytes: another text in the same memory", n)
		}
		clear(first[:])
		if Sum(b) != want {
			t.Errorf("%d bytes: another answer the second time", n)
		}
	}
}

func TestNilAndEmptyAreOne(t *testing.T) {
	if Sum(nil) != Sum([]byte{}) || Sum(nil) != Sum(make([]byte, 0, 100)) {
		t.Error("nil and an empty text have two digests")
	}
}

func TestBlocksAnswerTheSameAgain(t *testing.T) {
	blocks(func(h [8]uint32, b [64]byte) {
		first, s, c := Block(h, b), h, b
		second := Block(h, b)
		Sum(b[:])
		Block(second, b)
		if Block(h, b) != first || second != first || h != s || b != c {
			t.Errorf("of %08x, %x another answer", h, b)
		}
	})
}

// Calls at one time share nothing.
func TestManyAtOnce(t *testing.T) {
	var all sync.WaitGroup
	for i := range 8 {
		all.Go(func() {
			m := mixer(8 + i)
			for n := range 300 {
				b := m.text(n)
				if Sum(b) != sha256.Sum256(b) {
					t.Errorf("%d bytes", n)
				}
			}
		})
	}
	all.Wait()
}

// R1: beyond the limits calls still end, and none panics.
func TestBeyondTheLimits(t *testing.T) {
	for _, n := range []int{mostBytes + 1, 2*mostBytes + 56, 1 << 25} {
		Sum(make([]byte, n))
	}
}
