package sha

import (
	"bytes"
	"crypto/sha256"
	"strconv"
	"strings"
	"testing"
)

// Digests that FIPS 180-4 and its examples tell, and the document's own.
func TestKnownDigests(t *testing.T) {
	for _, x := range []struct{ text, want string }{
		{"", "e3b0c442 98fc1c14 9afbf4c8 996fb924 27ae41e4 649b934c a495991b 7852b855"},
		{"abc", "ba7816bf 8f01cfea 414140de 5dae2223 b00361a3 96177a9c b410ff61 f20015ad"},
		{"abcdbcdecdefdefgefghfghighijhijkijkljklmklmnlmnomnopnopq", "248d6a61 d20638b8 e5c02693 0c3e6039 a33ce459 64ff2167 f6ecedd4 19db06c1"},
		{"abcdefghbcdefghicdefghijdefghijkefghijklfghijklmghijklmnhijklmnoijklmnopjklmnopqklmnopqrlmnopqrsmnopqrstnopqrstu", "cf5b16a7 78af8380 036ce59e 7b049237 0b249b11 e8f07a51 afac4503 7afee9d1"},
		{"\xbd", "68325720 aabd7c82 f30f554b 313d0570 c95accbb 7dc4b5aa e11204c0 8ffe732b"},
		{strings.Repeat("a", 1000000), "cdc76e5c 9914fb92 81a1c7e2 84d73e67 f1809a48 a497200e 046d39cc c7112cd0"},
		{strings.Repeat("\x00", 1000000), "d29751f2 649b32ff 572b5e0a 9f541ea6 60a50f94 ff0beedf b0b692b9 24cc8025"},
	} {
		is(t, strconv.Quote(x.text[:min(len(x.text), 20)]), Sum([]byte(x.text)), x.want)
	}
}

// Each length up to some blocks: the bit 1 and the length stand in the last
// block, or fill one more.
func TestEachLength(t *testing.T) {
	m := mixer(1)
	for n := range 700 {
		for _, b := range [][]byte{make([]byte, n), bytes.Repeat([]byte{255}, n), m.text(n)} {
			if got, want := Sum(b), sha256.Sum256(b); got != want {
				t.Errorf("%d bytes: %x, not %x", n, got, want)
			}
		}
	}
}

func TestSumsByTheReference(t *testing.T) {
	m := mixer(2)
	for _, n := range []int{0, 1, 3, 54, 55, 56, 57, 63, 64, 65, 118, 119, 120, 121, 127, 128, 129, 191, 192} {
		b := m.text(n)
		if got, want := Sum(b), reference(b, compress); got != want {
			t.Errorf("%d bytes: %x, not %x", n, got, want)
		}
	}
}

// Longer texts, so that their lengths in bits need a second and third byte and
// more.
func TestLongTexts(t *testing.T) {
	m := mixer(3)
	for _, n := range []int{8191, 8192, 8193, 65535, 65536, 1<<17 + 55, 1<<17 + 56, mostBytes/2 - 9, mostBytes - 64, mostBytes - 9, mostBytes - 8, mostBytes - 1, mostBytes} {
		b := m.text(n)
		if got, want := Sum(b), sha256.Sum256(b); got != want {
			t.Errorf("%d bytes: %x, not %x", n, got, want)
		}
		if got, want := Sum(b), reference(b, Block); got != want {
			t.Errorf("%d bytes: not its blocks pressed in one by one", n)
		}
	}
}

// One bit more, less or another makes another digest.
func TestEachBitCounts(t *testing.T) {
	m := mixer(4)
	b := m.text(130)
	seen := map[[32]byte]bool{Sum(b): true, Sum(b[1:]): true, Sum(b[:129]): true, Sum(append(b[:130:130], 0)): true}
	for i := range 8 * len(b) {
		b[i/8] ^= 1 << (i % 8)
		seen[Sum(b)] = true
		b[i/8] ^= 1 << (i % 8)
	}
	if len(seen) != 8*len(b)+4 {
		t.Errorf("%d digests of %d texts", len(seen), 8*len(b)+4)
	}
}

// Texts of noughts differ in their lengths alone.
func TestNoughtsCount(t *testing.T) {
	seen := map[[32]byte]bool{}
	for n := range 200 {
		seen[Sum(make([]byte, n))] = true
	}
	if len(seen) != 200 {
		t.Errorf("%d digests of 200 texts", len(seen))
	}
}
