package sha

import (
	"slices"
	"testing"
)

// allOnes is a block, and so is its state, with all bits set.
func allOnes() (h [8]uint32, b [64]byte) {
	for i := range h {
		h[i] = ones
	}
	for i := range b {
		b[i] = 255
	}
	return h, b
}

func blocks(do func(h [8]uint32, b [64]byte)) {
	h, b := allOnes()
	for _, s := range [][8]uint32{{}, {1}, {7: 1}, {0: 1 << 31}, start, h} {
		for _, c := range [][64]byte{{}, {1}, {0x80}, {63: 1}, {3: 1}, {56: 1}, {60: 255}, b} {
			do(s, c)
		}
	}
	m := mixer(5)
	for range 100 {
		do(m.words(), [64]byte(m.text(64)))
	}
}

func TestBlocks(t *testing.T) {
	blocks(func(h [8]uint32, b [64]byte) {
		if got, want := Block(h, b), compress(h, b); got != want {
			t.Errorf("Block(%08x, %x): %08x, not %08x", h, b, got, want)
		}
	})
}

// The examples of FIPS 180-4: abc in one block, the longer one in two.
func TestBlocksOfExamples(t *testing.T) {
	for _, x := range []struct {
		text string
		want [][8]uint32
	}{
		{"", [][8]uint32{{0xe3b0c442, 0x98fc1c14, 0x9afbf4c8, 0x996fb924, 0x27ae41e4, 0x649b934c, 0xa495991b, 0x7852b855}}},
		{"abc", [][8]uint32{{0xba7816bf, 0x8f01cfea, 0x414140de, 0x5dae2223, 0xb00361a3, 0x96177a9c, 0xb410ff61, 0xf20015ad}}},
		{"abcdbcdecdefdefgefghfghighijhijkijkljklmklmnlmnomnopnopq", [][8]uint32{
			{0x85e655d6, 0x417a1795, 0x3363376a, 0x624cde5c, 0x76e09589, 0xcac5f811, 0xcc4b32c1, 0xf20e533a},
			{0x248d6a61, 0xd20638b8, 0xe5c02693, 0x0c3e6039, 0xa33ce459, 0x64ff2167, 0xf6ecedd4, 0x19db06c1},
		}},
	} {
		h := start
		for i, b := range slices.Collect(slices.Chunk(padded([]byte(x.text)), 64)) {
			if h = Block(h, [64]byte(b)); h != x.want[i] {
				t.Errorf("%q: block %d: %08x, not %08x", x.text, i, h, x.want[i])
			}
		}
	}
}

// Each bit of the state and of the block counts.
func TestEachBitOfABlockCounts(t *testing.T) {
	m := mixer(6)
	h, b := m.words(), [64]byte(m.text(64))
	seen := map[[8]uint32]bool{Block(h, b): true}
	for i := range 256 {
		s := h
		s[i/32] ^= 1 << (i % 32)
		seen[Block(s, b)] = true
	}
	for i := range 512 {
		c := b
		c[i/8] ^= 1 << (i % 8)
		seen[Block(h, c)] = true
	}
	if len(seen) != 256+512+1 {
		t.Errorf("%d answers, not %d", len(seen), 256+512+1)
	}
}
