package sha

import "math/bits"

const (
	rounds     = 64
	blockWords = blockBytes / wordBytes
)

// Block tells what h becomes when the block b is pressed in: the compression
// of SHA-256.
func Block(h [8]uint32, b [64]byte) [8]uint32 {
	mixed := mix(h, spread(b))
	for i := range h {
		h[i] += mixed[i]
	}
	return h
}

// mix goes through the rounds, with a word of the block in each.
func mix(s [8]uint32, w [rounds]uint32) [8]uint32 {
	k := [rounds]uint32{
		0x428a2f98, 0x71374491, 0xb5c0fbcf, 0xe9b5dba5, 0x3956c25b, 0x59f111f1, 0x923f82a4, 0xab1c5ed5,
		0xd807aa98, 0x12835b01, 0x243185be, 0x550c7dc3, 0x72be5d74, 0x80deb1fe, 0x9bdc06a7, 0xc19bf174,
		0xe49b69c1, 0xefbe4786, 0x0fc19dc6, 0x240ca1cc, 0x2de92c6f, 0x4a7484aa, 0x5cb0a9dc, 0x76f988da,
		0x983e5152, 0xa831c66d, 0xb00327c8, 0xbf597fc7, 0xc6e00bf3, 0xd5a79147, 0x06ca6351, 0x14292967,
		0x27b70a85, 0x2e1b2138, 0x4d2c6dfc, 0x53380d13, 0x650a7354, 0x766a0abb, 0x81c2c92e, 0x92722c85,
		0xa2bfe8a1, 0xa81a664b, 0xc24b8b70, 0xc76c51a3, 0xd192e819, 0xd6990624, 0xf40e3585, 0x106aa070,
		0x19a4c116, 0x1e376c08, 0x2748774c, 0x34b0bcb5, 0x391c0cb3, 0x4ed8aa4a, 0x5b9cca4f, 0x682e6ff3,
		0x748f82ee, 0x78a5636f, 0x84c87814, 0x8cc70208, 0x90befffa, 0xa4506ceb, 0xbef9a3f7, 0xc67178f2,
	}
	a, b, c, d, e, f, g, h := s[0], s[1], s[2], s[3], s[4], s[5], s[6], s[7]
	i := 0
next:
	if i < rounds {
		up := h + turned(e, 6, 11, 25) + choose(e, f, g) + k[i] + w[i]
		top := up + turned(a, 2, 13, 22) + most(a, b, c)
		h, g, f, e = g, f, e, d+up
		d, c, b, a = c, b, a, top
		i++
		goto next
	}
	return [8]uint32{a, b, c, d, e, f, g, h}
}

// spread makes a word for each round: first the block's own, the highest byte
// first, then each of four before it.
func spread(b [blockBytes]byte) (w [rounds]uint32) {
	for i, x := range b {
		w[i/wordBytes] = w[i/wordBytes]<<byteBits | uint32(x)
	}
	for i := blockWords; i < rounds; i++ {
		w[i] = w[i-16] + shifted(w[i-15], 7, 18, 3) + w[i-7] + shifted(w[i-2], 17, 19, 10)
	}
	return w
}

// turned is x, turned down by i, j and k bits, all three laid over one another.
func turned(x uint32, i, j, k int) uint32 {
	return bits.RotateLeft32(x, -i) ^ bits.RotateLeft32(x, -j) ^ bits.RotateLeft32(x, -k)
}

// shifted is as turned, but what goes out at the bottom by k is gone.
func shifted(x uint32, i, j, k int) uint32 {
	return bits.RotateLeft32(x, -i) ^ bits.RotateLeft32(x, -j) ^ x>>k
}

// choose takes y's bits where x has a 1, z's where it has a 0.
func choose(x, y, z uint32) uint32 {
	return x&y ^ ^x&z
}

// most has a 1 where two or three of x, y and z have it.
func most(x, y, z uint32) uint32 {
	return x&y ^ x&z ^ y&z
}
