package sha

import (
	"encoding/hex"
	"math"
	"math/big"
	"slices"
	"strings"
	"testing"
)

const ones = uint32(math.MaxUint32)

// mostBytes is how long a text may be by the document.
const mostBytes = 1 << 20

// primes are the first n of them.
func primes(n int) (out []int64) {
	for p := int64(2); len(out) < n; p++ {
		if !slices.ContainsFunc(out, func(q int64) bool { return p%q == 0 }) {
			out = append(out, p)
		}
	}
	return out
}

// fraction is the first 32 bits behind the point of p's root of that degree:
// the greatest number whose power is not above p 2^(32 degree), by halves.
func fraction(p int64, degree int64) uint32 {
	whole := new(big.Int).Lsh(big.NewInt(p), uint(32*degree))
	low, high := big.NewInt(0), new(big.Int).Set(whole)
	for low.Cmp(high) < 0 {
		mid := new(big.Int).Add(low, high)
		mid.Add(mid, big.NewInt(1)).Rsh(mid, 1)
		if new(big.Int).Exp(mid, big.NewInt(degree), nil).Cmp(whole) <= 0 {
			low = mid
		} else {
			high = mid.Sub(mid, big.NewInt(1))
		}
	}
	return uint32(low.Uint64())
}

// FIPS 180-4 makes its numbers from roots: 4.2.2 from the third roots of 64
// primes, 5.3.3 from the square roots of 8.

var start = func() (out [8]uint32) {
	for i, p := range primes(8) {
		out[i] = fraction(p, 2)
	}
	return out
}()

var thirds = func() (out [64]uint32) {
	for i, p := range primes(64) {
		out[i] = fraction(p, 3)
	}
	return out
}()

// bitsOf writes a word bit by bit, the highest first: the reference reckons
// with lists of bits, not with words.
func bitsOf(x uint32) (out []byte) {
	for i := range 32 {
		out = append(out, byte(x>>(31-i)&1))
	}
	return out
}

func wordOf(b []byte) (x uint32) {
	for _, v := range b {
		x = 2*x + uint32(v)
	}
	return x
}

// rotr and shr are those of FIPS 180-4, 3.2.
func rotr(x uint32, n int) uint32 {
	b := bitsOf(x)
	return wordOf(append(slices.Clone(b[32-n:]), b[:32-n]...))
}

func shr(x uint32, n int) uint32 {
	return wordOf(bitsOf(x)[:32-n])
}

// each makes a word from three, bit by bit.
func each(x, y, z uint32, do func(x, y, z byte) byte) uint32 {
	a, b, c := bitsOf(x), bitsOf(y), bitsOf(z)
	for i := range a {
		a[i] = do(a[i], b[i], c[i])
	}
	return wordOf(a)
}

func xor(x, y, z uint32) uint32 {
	return each(x, y, z, func(x, y, z byte) byte { return (x + y + z) % 2 })
}

func ch(x, y, z uint32) uint32 {
	return each(x, y, z, func(x, y, z byte) byte { return x*y + (1-x)*z })
}

func maj(x, y, z uint32) uint32 {
	return each(x, y, z, func(x, y, z byte) byte { return (x + y + z) / 2 })
}

// plus sums modulo 2^32, in wider numbers.
func plus(l ...uint32) uint32 {
	sum := uint64(0)
	for _, x := range l {
		sum += uint64(x)
	}
	return uint32(sum % (1 << 32))
}

// compress is FIPS 180-4, 6.2.2, steps 1 to 4.
func compress(h [8]uint32, b [64]byte) (out [8]uint32) {
	var w [64]uint32
	for t := range w {
		if t < 16 {
			w[t] = uint32(b[4*t])*(1<<24) + uint32(b[4*t+1])*(1<<16) + uint32(b[4*t+2])*(1<<8) + uint32(b[4*t+3])
			continue
		}
		s0 := xor(rotr(w[t-15], 7), rotr(w[t-15], 18), shr(w[t-15], 3))
		s1 := xor(rotr(w[t-2], 17), rotr(w[t-2], 19), shr(w[t-2], 10))
		w[t] = plus(s1, w[t-7], s0, w[t-16])
	}
	v := h
	for t := range w {
		s1 := xor(rotr(v[4], 6), rotr(v[4], 11), rotr(v[4], 25))
		s0 := xor(rotr(v[0], 2), rotr(v[0], 13), rotr(v[0], 22))
		t1 := plus(v[7], s1, ch(v[4], v[5], v[6]), thirds[t], w[t])
		t2 := plus(s0, maj(v[0], v[1], v[2]))
		v = [8]uint32{plus(t1, t2), v[0], v[1], v[2], plus(v[3], t1), v[4], v[5], v[6]}
	}
	for i := range out {
		out[i] = plus(v[i], h[i])
	}
	return out
}

// padded is FIPS 180-4, 5.1.1, counted in bits: the text, a 1, the fewest
// noughts that leave 64 bits to a whole block, and the length in these.
func padded(b []byte) []byte {
	noughts := 0
	for (8*len(b)+1+noughts+64)%512 != 0 {
		noughts++
	}
	length := new(big.Int).SetInt64(int64(8 * len(b))).FillBytes(make([]byte, 8))
	out := append(slices.Clone(b), 128)
	out = append(out, make([]byte, (noughts-7)/8)...)
	return append(out, length...)
}

// reference is a digest by padded and the blocks of press.
func reference(b []byte, press func([8]uint32, [64]byte) [8]uint32) (out [32]byte) {
	h := start
	for block := range slices.Chunk(padded(b), 64) {
		h = press(h, [64]byte(block))
	}
	for i, x := range h {
		new(big.Int).SetUint64(uint64(x)).FillBytes(out[4*i : 4*i+4])
	}
	return out
}

// mixer makes the same numbers in each run.
type mixer uint64

func (m *mixer) next() uint64 {
	*m += 0x9e3779b97f4a7c15
	x := uint64(*m)
	x = (x ^ x>>30) * 0xbf58476d1ce4e5b9
	x = (x ^ x>>27) * 0x94d049bb133111eb
	return x ^ x>>31
}

// text has n bytes, many of them at the edges.
func (m *mixer) text(n int) []byte {
	out := make([]byte, n)
	for i := range out {
		switch x := m.next(); x % 8 {
		case 0:
			out[i] = 0
		case 1:
			out[i] = 255
		case 2:
			out[i] = 128
		default:
			out[i] = byte(x >> 32)
		}
	}
	return out
}

// words are a state, many of its words at the edges.
func (m *mixer) words() (out [8]uint32) {
	for i := range out {
		switch x := m.next(); x % 8 {
		case 0:
			out[i] = 0
		case 1:
			out[i] = ones
		case 2:
			out[i] = 1 << 31
		default:
			out[i] = uint32(x >> 32)
		}
	}
	return out
}

// is holds a digest against its text.
func is(t *testing.T, what string, got [32]byte, want string) {
	t.Helper()
	if hex.EncodeToString(got[:]) != strings.ReplaceAll(want, " ", "") {
		t.Errorf("%s: %x, not %s", what, got, want)
	}
}
