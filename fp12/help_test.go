package fp12

import (
	"math"
	"math/big"
	"slices"
	"testing"

	"intaglio/api"
)

const most = uint64(math.MaxUint64)

var (
	one = api.Fp12{{{{1}}}}
	u   = api.Fp12{{{{}, {1}}}}
	v   = api.Fp12{{{}, {{1}}}}
	vv  = api.Fp12{{{}, {}, {{1}}}}
	w   = api.Fp12{{}, {{{1}}}}
	vw  = api.Fp12{{}, {{}, {{1}}}}
	vvw = api.Fp12{{}, {{}, {}, {{1}}}}
)

// modulus reads P as the document writes it, not from a package's limbs.
func modulus() *big.Int {
	p, _ := new(big.Int).SetString("1a0111ea397fe69a4b1ba7b6434bacd764774b84f38512bf6730d2a0f6b0f6241eabfffeb153ffffb9feffffffffaaab", 16)
	return p
}

func bigOf(a []uint64) *big.Int {
	n := new(big.Int)
	for _, x := range slices.Backward(a) {
		n.Lsh(n, 64)
		n.Or(n, new(big.Int).SetUint64(x))
	}
	return n
}

// wideOf has as many limbs as n needs.
func wideOf(n *big.Int) []uint64 {
	var out []uint64
	for rest := new(big.Int).Set(n); rest.Sign() > 0; rest.Rsh(rest, 64) {
		out = append(out, new(big.Int).And(rest, new(big.Int).SetUint64(most)).Uint64())
	}
	return out
}

// limbsOf is n, below 2^384, as a part has it.
func limbsOf(n *big.Int) api.Fp {
	var out api.Fp
	copy(out[:], wideOf(n))
	return out
}

// partOf is n modulo P, also of an n below 0.
func partOf(n *big.Int) api.Fp {
	return limbsOf(new(big.Int).Mod(n, modulus()))
}

// near is P + d, which need not be below P.
func near(d int64) api.Fp {
	return limbsOf(new(big.Int).Add(modulus(), big.NewInt(d)))
}

// middle is (P + d) / 2, d odd.
func middle(d int64) api.Fp {
	n := new(big.Int).Add(modulus(), big.NewInt(d))
	return limbsOf(n.Rsh(n, 1))
}

// plain is a number as the library's great numbers have it: the tests' own
// reckoning, without the layers below and on another footing. w^6 is 1 + u, so
// u is w^6 - 1, and that u u is -1 says that w^12 is 2 w^6 - 2: a number is
// twelve numbers below P, at the powers of w alone.
type plain [12]*big.Int

// powerOf tells at which power of w a's pair [i][j] stands.
func powerOf(i, j int) int {
	return 2*j + i
}

func plainOf(a api.Fp12) plain {
	var out plain
	for i := range a {
		for j := range a[i] {
			k := powerOf(i, j)
			x, y := bigOf(a[i][j][0][:]), bigOf(a[i][j][1][:])
			out[k], out[k+6] = x.Sub(x, y), y
		}
	}
	return out
}

func (a plain) six() api.Fp12 {
	var out api.Fp12
	for i := range out {
		for j := range out[i] {
			k := powerOf(i, j)
			out[i][j] = api.Fp2{partOf(new(big.Int).Add(a[k], a[k+6])), partOf(a[k+6])}
		}
	}
	return out
}

func (a plain) add(b plain) plain {
	var out plain
	for k := range a {
		out[k] = new(big.Int).Add(a[k], b[k])
	}
	return out
}

func (a plain) neg() plain {
	var out plain
	for k := range a {
		out[k] = new(big.Int).Neg(a[k])
	}
	return out
}

// conj puts -w for w.
func (a plain) conj() plain {
	out := a
	for k := 1; k < len(out); k += 2 {
		out[k] = new(big.Int).Neg(a[k])
	}
	return out
}

func (a plain) mul(b plain) plain {
	var wide [23]big.Int
	for i, x := range a {
		for j, y := range b {
			if x.Sign() != 0 && y.Sign() != 0 {
				wide[i+j].Add(&wide[i+j], new(big.Int).Mul(x, y))
			}
		}
	}
	for k := 22; k >= 12; k-- {
		twice := new(big.Int).Lsh(&wide[k], 1)
		wide[k-6].Add(&wide[k-6], twice)
		wide[k-12].Sub(&wide[k-12], twice)
	}
	var out plain
	p := modulus()
	for k := range out {
		out[k] = new(big.Int).Mod(&wide[k], p)
	}
	return out
}

// pow goes through the bits from the least one, unlike the package.
func (a plain) pow(e *big.Int) plain {
	out := plainOf(one)
	for i := range e.BitLen() {
		if e.Bit(i) == 1 {
			out = out.mul(a)
		}
		a = a.mul(a)
	}
	return out
}

// mixer makes the same numbers in each run.
type mixer uint64

func (m *mixer) next() uint64 {
	*m += 0x9e3779b97f4a7c15
	x := uint64(*m)
	x = (x ^ x>>30) * 0xbf58476d1ce4e5b9
	x = (x ^ x>>27) * 0x94d049bb133111eb
	return x ^ x>>31
}

// wide has n limbs, many of them at the edges, where carries and borrows go
// on; the top ones may be noughts.
func (m *mixer) wide(n int) []uint64 {
	out := make([]uint64, n)
	for i := range out {
		switch m.next() % 8 {
		case 0:
			out[i] = 0
		case 1:
			out[i] = most
		case 2:
			out[i] = 1
		default:
			out[i] = m.next()
		}
	}
	return out
}

// number is one that may be.
func (m *mixer) number() api.Fp12 {
	var out api.Fp12
	for i := range 12 {
		out = with(out, i, partOf(bigOf(m.wide(6))))
	}
	return out
}

// with is a with x as its i-th part of twelve.
func with(a api.Fp12, i int, x api.Fp) api.Fp12 {
	a[i/6][i/2%3][i%2] = x
	return a
}

// same has x as each of its twelve parts.
func same(x api.Fp) api.Fp12 {
	var out api.Fp12
	for i := range 12 {
		out = with(out, i, x)
	}
	return out
}

// parts are a part's edges: at both ends, in the middle, at a seam of limbs.
func parts() []api.Fp {
	return []api.Fp{{}, {1}, {2}, near(-1), near(-2), middle(-1), middle(1), {most, most, most}, {0, 0, 0, 1}}
}

// strangeParts are limbs that are not below P.
func strangeParts() []api.Fp {
	return []api.Fp{near(0), near(1), {0, 0, 0, 0, 0, 0x1a0111ea397fe69b}, {0, 0, 0, 0, 0, 1 << 63}, {most, most, most, most, most, most}}
}

// threes are all threes whose parts are 0, 1 and P - 1.
func threes() []api.Fp6 {
	list := []api.Fp6{{}}
	for i := range 6 {
		for _, a := range list {
			for _, x := range []api.Fp{{1}, near(-1)} {
				a[i/2][i%2] = x
				list = append(list, a)
			}
		}
	}
	return list
}

// ends are numbers whose parts are 0, 1 and P - 1: all that have one of the
// two threes 0, and each three beside another.
func ends() []api.Fp12 {
	var list []api.Fp12
	all := threes()
	for i, x := range all {
		list = append(list, api.Fp12{x}, api.Fp12{{}, x}, api.Fp12{x, all[len(all)-1-i]})
	}
	return list
}

// alone are the numbers of which one part alone is not 0: each part, each edge.
func alone() []api.Fp12 {
	var list []api.Fp12
	for i := range 12 {
		for _, x := range parts()[1:] {
			list = append(list, with(api.Fp12{}, i, x))
		}
	}
	return list
}

// some are each of a few kinds: nought, all parts at the top, each part alone
// at both ends, one pair or one three alone, or 0 alone, and mixed ones.
func some(seed mixer) []api.Fp12 {
	a := seed.number()
	list := []api.Fp12{{}, same(api.Fp{1}), same(near(-1)), {a[0]}, {{}, a[1]}, a, seed.number()}
	for i := range 12 {
		list = append(list, with(api.Fp12{}, i, api.Fp{1}), with(api.Fp12{}, i, near(-1)))
	}
	for i := range 6 {
		b, c := seed.number(), api.Fp12{}
		b[i/3][i%3], c[i/3][i%3] = api.Fp2{}, b[i/3][i%3]
		list = append(list, b, c)
	}
	return list
}

// many has the edges and n mixed numbers.
func many(seed mixer, n int) []api.Fp12 {
	list := slices.Concat(ends(), alone(), some(seed))
	for range n {
		list = append(list, seed.number())
	}
	return list
}

// twos calls do with twos of edges and with mixed ones.
func twos(do func(a, b api.Fp12)) {
	few := some(2)
	for i, a := range many(1, 50) {
		b := few[i%len(few)]
		do(a, b)
		do(b, a)
	}
	for _, a := range few {
		for _, b := range few {
			do(a, b)
		}
	}
	m := mixer(3)
	for range 1000 {
		do(m.number(), m.number())
	}
}

// strange have one part of the twelve, or all, that is not below P.
func strange() []api.Fp12 {
	m := mixer(4)
	backs := []api.Fp12{{}, one, same(near(-1)), m.number()}
	var list []api.Fp12
	for _, x := range strangeParts() {
		for i := range 12 {
			for _, a := range backs {
				list = append(list, with(a, i, x))
			}
		}
		list = append(list, same(x))
	}
	return list
}

// is holds an answer against the tests' own reckoning.
func is(t *testing.T, what string, got api.Fp12, want plain) {
	t.Helper()
	if got != want.six() {
		t.Errorf("%s: %x, not %x", what, got, want.six())
	}
}

// full has n limbs, all bits set.
func full(n int) []uint64 {
	return slices.Repeat([]uint64{most}, n)
}

// padded is a with n noughts on top.
func padded(n int, a ...uint64) []uint64 {
	return append(slices.Clone(a), make([]uint64, n)...)
}
