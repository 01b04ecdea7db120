package fp2

import (
	"math"
	"math/big"
	"slices"
	"testing"

	"intaglio/api"
)

const most = uint64(math.MaxUint64)

var (
	one = api.Fp2{{1}}
	u   = api.Fp2{{}, {1}}
)

// modulus reads P as the document writes it, not from a package's limbs.
func modulus() *big.Int {
	p, _ := new(big.Int).SetString("1a0111ea397fe69a4b1ba7b6434bacd764774b84f38512bf6730d2a0f6b0f6241eabfffeb153ffffb9feffffffffaaab", 16)
	return p
}

func bigOf(a []uint64) *big.Int {
	n := new(big.Int)
	for _, x := range slices.Backward(a) {
		n.Lsh(n, 64)
		n.Or(n, new(big.Int).SetUint64(x))
	}
	return n
}

// limbsOf has n's lowest six limbs.
func limbsOf(n *big.Int) api.Fp {
	var out api.Fp
	for i := range out {
		x := new(big.Int).Rsh(n, uint(64*i))
		out[i] = x.And(x, new(big.Int).SetUint64(most)).Uint64()
	}
	return out
}

// partOf is n modulo P, also of an n below 0.
func partOf(n *big.Int) api.Fp {
	return limbsOf(new(big.Int).Mod(n, modulus()))
}

// near is P + d, which need not be below P.
func near(d int64) api.Fp {
	return limbsOf(new(big.Int).Add(modulus(), big.NewInt(d)))
}

// middle is (P + d) / 2, d odd.
func middle(d int64) api.Fp {
	n := new(big.Int).Add(modulus(), big.NewInt(d))
	return limbsOf(n.Rsh(n, 1))
}

// plain is a pair as the library's great numbers have it: the tests' own
// reckoning, by the school's way and without layer 3.
type plain struct{ x, y *big.Int }

func plainOf(a api.Fp2) plain {
	return plain{bigOf(a[0][:]), bigOf(a[1][:])}
}

func (a plain) pair() api.Fp2 {
	return api.Fp2{partOf(a.x), partOf(a.y)}
}

func (a plain) add(b plain) plain {
	return plain{new(big.Int).Add(a.x, b.x), new(big.Int).Add(a.y, b.y)}
}

func (a plain) neg() plain {
	return plain{new(big.Int).Neg(a.x), new(big.Int).Neg(a.y)}
}

func (a plain) mul(b plain) plain {
	x := new(big.Int).Mul(a.x, b.x)
	x.Sub(x, new(big.Int).Mul(a.y, b.y))
	y := new(big.Int).Mul(a.x, b.y)
	y.Add(y, new(big.Int).Mul(a.y, b.x))
	return plain{x.Mod(x, modulus()), y.Mod(y, modulus())}
}

// pow goes through the bits from the least one, unlike the package.
func (a plain) pow(e *big.Int) plain {
	out := plain{big.NewInt(1), new(big.Int)}
	for i := range e.BitLen() {
		if e.Bit(i) == 1 {
			out = out.mul(a)
		}
		a = a.mul(a)
	}
	return out
}

// isSquare asks Euler: the power by (P P - 1) / 2 is 1 or 0.
func (a plain) isSquare() bool {
	e := new(big.Int).Mul(modulus(), modulus())
	power := a.pow(e.Rsh(e, 1)).pair()
	return power == one || power == api.Fp2{}
}

// great asks as P5.2 has it.
func (a plain) great() bool {
	if a.y.Sign() == 0 {
		return new(big.Int).Lsh(a.x, 1).Cmp(modulus()) > 0
	}
	return new(big.Int).Lsh(a.y, 1).Cmp(modulus()) > 0
}

// mixer makes the same numbers in each run.
type mixer uint64

func (m *mixer) next() uint64 {
	*m += 0x9e3779b97f4a7c15
	x := uint64(*m)
	x = (x ^ x>>30) * 0xbf58476d1ce4e5b9
	x = (x ^ x>>27) * 0x94d049bb133111eb
	return x ^ x>>31
}

// wide has n limbs, many of them at the edges, where carries and borrows go
// on; the top ones may be noughts.
func (m *mixer) wide(n int) []uint64 {
	out := make([]uint64, n)
	for i := range out {
		switch m.next() % 8 {
		case 0:
			out[i] = 0
		case 1:
			out[i] = most
		case 2:
			out[i] = 1
		default:
			out[i] = m.next()
		}
	}
	return out
}

// number is one that may be.
func (m *mixer) number() api.Fp2 {
	return api.Fp2{partOf(bigOf(m.wide(6))), partOf(bigOf(m.wide(6)))}
}

// parts are a part's edges: at both ends, in the middle, at a seam of limbs.
func parts() []api.Fp {
	return []api.Fp{{}, {1}, {2}, near(-1), near(-2), middle(-1), middle(1), {most, most, most}, {0, 0, 0, 1}}
}

// numbers are all pairs of the parts' edges, and of these one part 0, and
// both, are some.
func numbers() []api.Fp2 {
	var out []api.Fp2
	for _, x := range parts() {
		for _, y := range parts() {
			out = append(out, api.Fp2{x, y})
		}
	}
	return out
}

// many has the edges and n mixed numbers.
func many(seed mixer, n int) []api.Fp2 {
	list := numbers()
	for range n {
		list = append(list, seed.number())
	}
	return list
}

// strangeParts are limbs that are not below P.
func strangeParts() []api.Fp {
	return []api.Fp{near(0), near(1), {0, 0, 0, 0, 0, 0x1a0111ea397fe69b}, {0, 0, 0, 0, 0, 1 << 63}, {most, most, most, most, most, most}}
}

// strange have one part, or both, that is not below P.
func strange() []api.Fp2 {
	var out []api.Fp2
	for _, x := range strangeParts() {
		for _, y := range parts() {
			out = append(out, api.Fp2{x, y}, api.Fp2{y, x})
		}
		for _, y := range strangeParts() {
			out = append(out, api.Fp2{x, y})
		}
	}
	return out
}

// twos calls do with all twos of edges and with many mixed ones.
func twos(do func(a, b api.Fp2)) {
	for _, a := range numbers() {
		for _, b := range numbers() {
			do(a, b)
		}
	}
	m := mixer(2)
	for range 2000 {
		do(m.number(), m.number())
	}
}

// is holds an answer against the tests' own reckoning.
func is(t *testing.T, what string, got api.Fp2, want plain) {
	t.Helper()
	if got != want.pair() {
		t.Errorf("%s: %x, not %x", what, got, want.pair())
	}
}

// full has n limbs, all bits set.
func full(n int) []uint64 {
	return slices.Repeat([]uint64{most}, n)
}

// padded is a with n noughts on top.
func padded(n int, a ...uint64) []uint64 {
	return append(slices.Clone(a), make([]uint64, n)...)
}
