package point

import (
	"bytes"
	"slices"
	"testing"

	"intaglio/api"
	"intaglio/fr"
	"intaglio/g1"
	"intaglio/g2"
)

// P10.1: Put1 and Put2.

func TestTextsOfInf(t *testing.T) {
	if got := Put1(inf1); !bytes.Equal(got, append([]byte{192}, make([]byte, 47)...)) {
		t.Errorf("Put1: %x", got)
	}
	if got := Put2(inf2); !bytes.Equal(got, append([]byte{192}, make([]byte, 95)...)) {
		t.Errorf("Put2: %x", got)
	}
}

// Of the points that the document writes out, and their first multiples, the
// texts are known.
func TestKnownTexts(t *testing.T) {
	for i, text := range []string{
		"97f1d3a73197d7942695638c4fa9ac0fc3688c4f9774b905a14e3a3f171bac586c55e83ff97a1aeffb3af00adb22c6bb",
		"a572cbea904d67468808c8eb50a9450c9721db309128012543902d0ac358a62ae28f75bb8f1c7c42c39a8c5529bf0f4e",
		"89ece308f9d1f0131765212deca99697b112d61f9be9a5f1f3780a51335b3ff981747a0b2ca2179b96d2c0c9024e5224",
	} {
		p, want := g1.Mul(g1.One(), fr.Of(uint64(i+1))), hex(text).Bytes()
		if got := Put1(p); !bytes.Equal(got, want) {
			t.Errorf("Put1 of %d g1: %x", i+1, got)
		}
		takes1(t, want, p, api.OK)
		want[0] ^= 0x20
		if got := Put1(g1.Neg(p)); !bytes.Equal(got, want) {
			t.Errorf("Put1 of %d (-g1): %x", i+1, got)
		}
		takes1(t, want, g1.Neg(p), api.OK)
	}
	for i, text := range []string{
		"93e02b6052719f607dacd3a088274f65596bd0d09920b61ab5da61bbdc7f5049334cf11213945d57e5ac7d055d042b7e024aa2b2f08f0a91260805272dc51051c6e47ad4fa403b02b4510b647ae3d1770bac0326a805bbefd48056c8c121bdb8",
		"aa4edef9c1ed7f729f520e47730a124fd70662a904ba1074728114d1031e1572c6c886f6b57ec72a6178288c47c335771638533957d540a9d2370f17cc7ed5863bc0b995b8825e0ee1ea1e1e4d00dbae81f14b0bf3611b78c952aacab827a053",
	} {
		p, want := g2.Mul(g2.One(), fr.Of(uint64(i+1))), hex(text).Bytes()
		if got := Put2(p); !bytes.Equal(got, want) {
			t.Errorf("Put2 of %d g2: %x", i+1, got)
		}
		takes2(t, want, p, api.OK)
		want[0] ^= 0x20
		if got := Put2(g2.Neg(p)); !bytes.Equal(got, want) {
			t.Errorf("Put2 of %d (-g2): %x", i+1, got)
		}
		takes2(t, want, g2.Neg(p), api.OK)
	}
}

func TestPut1IsOfAllThatIsOn(t *testing.T) {
	for _, p := range slices.Concat(inside1(), outside1()) {
		if got, want := Put1(p), text1(p); !bytes.Equal(got, want) {
			t.Errorf("Put1(%v): %x, not %x", p, got, want)
		}
		if got, want := Put1(g1.Neg(p)), text1(g1.Neg(p)); !bytes.Equal(got, want) {
			t.Errorf("Put1 of -(%v): %x, not %x", p, got, want)
		}
	}
}

func TestPut2IsOfAllThatIsOn(t *testing.T) {
	for _, p := range slices.Concat(inside2(), outside2()) {
		if got, want := Put2(p), text2(p); !bytes.Equal(got, want) {
			t.Errorf("Put2(%v): %x, not %x", p, got, want)
		}
		if got, want := Put2(g2.Neg(p)), text2(g2.Neg(p)); !bytes.Equal(got, want) {
			t.Errorf("Put2 of -(%v): %x, not %x", p, got, want)
		}
	}
}

// Where Y's X1 is 0, its X0 tells whether Y is Great.
func TestPut2OfAFlatY(t *testing.T) {
	for i, p := range flats() {
		if !g2.On(p) || p.Y[1] != (api.Fp{}) {
			t.Fatalf("%v is not meant", p)
		}
		got, want := Put2(p), text2(p)
		if !bytes.Equal(got, want) || got[0]&0x20 != []byte{0, 0x20}[i%2] {
			t.Errorf("Put2(%v): %x, not %x", p, got, want)
		}
	}
}
