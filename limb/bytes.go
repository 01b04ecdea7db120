package limb

import (
	"math/bits"

	"intaglio/api"
)

const limbBytes = 8

// Put tells a in n bytes, the highest first; api.ErrLong: n is below 0, above
// 8 api.MaxLimbs, or too few for a.
func Put(a []uint64, n int) ([]byte, api.Errno) {
	if n < 0 || n > limbBytes*api.MaxLimbs || n < size(a) {
		return nil, api.ErrLong
	}
	out := make([]byte, n)
	i := 0
next:
	if i < n {
		out[n-1-i] = byte(limbAt(a, i/limbBytes) >> (8 * (i % limbBytes)))
		i++
		goto next
	}
	return out, api.OK
}

// Take tells the number that b is, the highest byte first.
func Take(b []byte) []uint64 {
	out := make([]uint64, (len(b)+limbBytes-1)/limbBytes)
	i := 0
next:
	if i < len(b) {
		out[i/limbBytes] |= uint64(b[len(b)-1-i]) << (8 * (i % limbBytes))
		i++
		goto next
	}
	return trim(out)
}

// size tells how many bytes a needs.
func size(a []uint64) int {
	a = trim(a)
	if len(a) == 0 {
		return 0
	}
	top := len(a) - 1
	return limbBytes*top + (bits.Len64(a[top])+7)/8
}
