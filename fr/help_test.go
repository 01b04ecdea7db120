package fr

import (
	"math"
	"math/big"
	"slices"
	"testing"

	"intaglio/api"
)

const most = uint64(math.MaxUint64)

// modulus reads R as the document writes it, not from the package's limbs.
func modulus() *big.Int {
	r, _ := new(big.Int).SetString("73eda753299d7d483339d80809a1d80553bda402fffe5bfeffffffff00000001", 16)
	return r
}

// bigOf works a number out by another way than the package does: limb by limb
// from the top, with the library's great numbers.
func bigOf(a []uint64) *big.Int {
	n := new(big.Int)
	for _, x := range slices.Backward(a) {
		n.Lsh(n, 64)
		n.Or(n, new(big.Int).SetUint64(x))
	}
	return n
}

// limbsOf has n's lowest four limbs.
func limbsOf(n *big.Int) api.Fr {
	var out api.Fr
	for i := range out {
		x := new(big.Int).Rsh(n, uint(64*i))
		out[i] = x.And(x, new(big.Int).SetUint64(most)).Uint64()
	}
	return out
}

// scalarOf is n modulo R, also of an n below 0.
func scalarOf(n *big.Int) api.Fr {
	return limbsOf(new(big.Int).Mod(n, modulus()))
}

// near is R + d, which need be no scalar.
func near(d int64) api.Fr {
	return limbsOf(new(big.Int).Add(modulus(), big.NewInt(d)))
}

// half is (R + d) / 2, d odd.
func half(d int64) api.Fr {
	n := new(big.Int).Add(modulus(), big.NewInt(d))
	return limbsOf(n.Rsh(n, 1))
}

// mixer makes the same numbers in each run.
type mixer uint64

func (m *mixer) next() uint64 {
	*m += 0x9e3779b97f4a7c15
	x := uint64(*m)
	x = (x ^ x>>30) * 0xbf58476d1ce4e5b9
	x = (x ^ x>>27) * 0x94d049bb133111eb
	return x ^ x>>31
}

// number has n limbs, many of them at the edges, where carries and borrows go
// on; the top ones may be noughts.
func (m *mixer) number(n int) []uint64 {
	out := make([]uint64, n)
	for i := range out {
		switch m.next() % 8 {
		case 0:
			out[i] = 0
		case 1:
			out[i] = most
		case 2:
			out[i] = 1
		default:
			out[i] = m.next()
		}
	}
	return out
}

// scalar is one that may be.
func (m *mixer) scalar() api.Fr {
	return scalarOf(bigOf(m.number(4)))
}

// scalars are the edges: at both ends, in the middle, at the seams of limbs,
// and where Montgomery's form is a small number.
func scalars() []api.Fr {
	two := big.NewInt(2)
	out := []api.Fr{
		{}, {1}, {2}, {3}, {7}, near(-1), near(-2), near(-3), half(-1), half(1),
		{most}, {0, 1}, {most, most}, {0, 0, 1}, {most, most, most}, {0, 0, 0, 1},
		{most, most, most, 0x73eda753299d7d47}, {0, 0, 0, 0x73eda753299d7d48}, {0, 0, 0, 1 << 62},
	}
	for _, e := range []int64{256, 512, -256, -512} {
		out = append(out, limbsOf(new(big.Int).Exp(two, big.NewInt(e), modulus())))
	}
	return out
}

// pairs calls do with all pairs of edges and with many mixed ones.
func pairs(do func(a, b api.Fr)) {
	for _, a := range scalars() {
		for _, b := range scalars() {
			do(a, b)
		}
	}
	m := mixer(2)
	for range 3000 {
		do(m.scalar(), m.scalar())
	}
}

// is holds an answer against a number that is brought below R by the library.
func is(t *testing.T, what string, got api.Fr, want *big.Int) {
	t.Helper()
	if got != scalarOf(want) {
		t.Errorf("%s: %x, not %x", what, got, scalarOf(want))
	}
}

// refused fails if e is another error, or an answer stands beside it.
func refused(t *testing.T, what string, got api.Fr, e, want api.Errno) {
	t.Helper()
	if got != (api.Fr{}) || e != want {
		t.Errorf("%s: %x, error %d, not %d", what, got, e, want)
	}
}

// full has n limbs, all bits set.
func full(n int) []uint64 {
	return slices.Repeat([]uint64{most}, n)
}

// padded is a with n noughts on top.
func padded(n int, a ...uint64) []uint64 {
	return append(slices.Clone(a), make([]uint64, n)...)
}
