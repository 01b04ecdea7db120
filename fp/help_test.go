package fp

import (
	"math"
	"math/big"
	"slices"
	"testing"

	"intaglio/api"
)

const most = uint64(math.MaxUint64)

// modulus reads P as the document writes it, not from the package's limbs.
func modulus() *big.Int {
	p, _ := new(big.Int).SetString("1a0111ea397fe69a4b1ba7b6434bacd764774b84f38512bf6730d2a0f6b0f6241eabfffeb153ffffb9feffffffffaaab", 16)
	return p
}

// bigOf works a number out by another way than the package does: limb by limb
// from the top, with the library's great numbers.
func bigOf(a []uint64) *big.Int {
	n := new(big.Int)
	for _, x := range slices.Backward(a) {
		n.Lsh(n, 64)
		n.Or(n, new(big.Int).SetUint64(x))
	}
	return n
}

// limbsOf has n's lowest six limbs.
func limbsOf(n *big.Int) api.Fp {
	var out api.Fp
	for i := range out {
		x := new(big.Int).Rsh(n, uint(64*i))
		out[i] = x.And(x, new(big.Int).SetUint64(most)).Uint64()
	}
	return out
}

// numberOf is n modulo P, also of an n below 0.
func numberOf(n *big.Int) api.Fp {
	return limbsOf(new(big.Int).Mod(n, modulus()))
}

// near is P + d, which need not be below P.
func near(d int64) api.Fp {
	return limbsOf(new(big.Int).Add(modulus(), big.NewInt(d)))
}

// middle is (P + d) / 2, d odd.
func middle(d int64) api.Fp {
	n := new(big.Int).Add(modulus(), big.NewInt(d))
	return limbsOf(n.Rsh(n, 1))
}

// mixer makes the same numbers in each run.
type mixer uint64

func (m *mixer) next() uint64 {
	*m += 0x9e3779b97f4a7c15
	x := uint64(*m)
	x = (x ^ x>>30) * 0xbf58476d1ce4e5b9
	x = (x ^ x>>27) * 0x94d049bb133111eb
	return x ^ x>>31
}

// wide has n limbs, many of them at the edges, where carries and borrows go
// on; the top ones may be noughts.
func (m *mixer) wide(n int) []uint64 {
	out := make([]uint64, n)
	for i := range out {
		switch m.next() % 8 {
		case 0:
			out[i] = 0
		case 1:
			out[i] = most
		case 2:
			out[i] = 1
		default:
			out[i] = m.next()
		}
	}
	return out
}

// number is one that may be.
func (m *mixer) number() api.Fp {
	return numberOf(bigOf(m.wide(6)))
}

// numbers are the edges: at both ends, in the middle, at the seams of limbs,
// and where Montgomery's form is a small number.
func numbers() []api.Fp {
	out := []api.Fp{
		{}, {1}, {2}, {3}, {4}, near(-1), near(-2), near(-3), near(-4), middle(-1), middle(1), middle(-3), middle(3),
		{most}, {0, 1}, {most, most}, {0, 0, 1}, {most, most, most}, {0, 0, 0, 1},
		{most, most, most, most}, {0, 0, 0, 0, 1}, {most, most, most, most, most}, {0, 0, 0, 0, 0, 1},
		{most, most, most, most, most, 0x1a0111ea397fe699}, {0, 0, 0, 0, 0, 0x1a0111ea397fe69a}, {0, 0, 0, 0, 0, 1 << 60},
	}
	for _, e := range []int64{384, 768, -384, -768} {
		out = append(out, limbsOf(new(big.Int).Exp(big.NewInt(2), big.NewInt(e), modulus())))
	}
	return out
}

// strange are limbs that are not below P.
func strange() []api.Fp {
	return []api.Fp{
		near(0), near(1), near(math.MaxInt64), {0, 0, 0, 0, 0, 0x1a0111ea397fe69b}, {0, 0, 0, 0, 0, 1 << 63},
		{0, 0, 0, 0, 0, most}, {most, most, most, most, most, most},
	}
}

// many has the edges and n mixed numbers.
func many(seed mixer, n int) []api.Fp {
	list := numbers()
	for range n {
		list = append(list, seed.number())
	}
	return list
}

// pairs calls do with all pairs of edges and with many mixed ones.
func pairs(do func(a, b api.Fp)) {
	for _, a := range numbers() {
		for _, b := range numbers() {
			do(a, b)
		}
	}
	m := mixer(2)
	for range 3000 {
		do(m.number(), m.number())
	}
}

// is holds an answer against a number that is brought below P by the library.
func is(t *testing.T, what string, got api.Fp, want *big.Int) {
	t.Helper()
	if got != numberOf(want) {
		t.Errorf("%s: %x, not %x", what, got, numberOf(want))
	}
}

// refused fails if e is another error, or an answer stands beside it.
func refused(t *testing.T, what string, got api.Fp, e, want api.Errno) {
	t.Helper()
	if got != (api.Fp{}) || e != want {
		t.Errorf("%s: %x, error %d, not %d", what, got, e, want)
	}
}

// full has n limbs, all bits set.
func full(n int) []uint64 {
	return slices.Repeat([]uint64{most}, n)
}

// padded is a with n noughts on top.
func padded(n int, a ...uint64) []uint64 {
	return append(slices.Clone(a), make([]uint64, n)...)
}
