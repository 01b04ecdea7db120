package fp6

import (
	"math"
	"math/big"
	"slices"
	"testing"

	"intaglio/api"
)

const most = uint64(math.MaxUint64)

var (
	one = api.Fp6{{{1}}}
	v   = api.Fp6{{}, {{1}}}
	vv  = api.Fp6{{}, {}, {{1}}}
)

// modulus reads P as the document writes it, not from a package's limbs.
func modulus() *big.Int {
	p, _ := new(big.Int).SetString("1a0111ea397fe69a4b1ba7b6434bacd764774b84f38512bf6730d2a0f6b0f6241eabfffeb153ffffb9feffffffffaaab", 16)
	return p
}

func bigOf(a []uint64) *big.Int {
	n := new(big.Int)
	for _, x := range slices.Backward(a) {
		n.Lsh(n, 64)
		n.Or(n, new(big.Int).SetUint64(x))
	}
	return n
}

// limbsOf has n's lowest six limbs.
func limbsOf(n *big.Int) api.Fp {
	var out api.Fp
	for i := range out {
		x := new(big.Int).Rsh(n, uint(64*i))
		out[i] = x.And(x, new(big.Int).SetUint64(most)).Uint64()
	}
	return out
}

// partOf is n modulo P, also of an n below 0.
func partOf(n *big.Int) api.Fp {
	return limbsOf(new(big.Int).Mod(n, modulus()))
}

// near is P + d, which need not be below P.
func near(d int64) api.Fp {
	return limbsOf(new(big.Int).Add(modulus(), big.NewInt(d)))
}

// middle is (P + d) / 2, d odd.
func middle(d int64) api.Fp {
	n := new(big.Int).Add(modulus(), big.NewInt(d))
	return limbsOf(n.Rsh(n, 1))
}

// plain is a number as the library's great numbers have it: the tests' own
// reckoning, by the school's way and without the layers below. Its numbers
// stand at the powers of v, and beside each the one at that power by u.
type plain [3][2]*big.Int

func plainOf(a api.Fp6) plain {
	var out plain
	for i := range a {
		for j := range a[i] {
			out[i][j] = bigOf(a[i][j][:])
		}
	}
	return out
}

func (a plain) three() api.Fp6 {
	var out api.Fp6
	for i := range a {
		for j := range a[i] {
			out[i][j] = partOf(a[i][j])
		}
	}
	return out
}

func (a plain) add(b plain) plain {
	var out plain
	for i := range a {
		for j := range a[i] {
			out[i][j] = new(big.Int).Add(a[i][j], b[i][j])
		}
	}
	return out
}

func (a plain) neg() plain {
	var out plain
	for i := range a {
		for j := range a[i] {
			out[i][j] = new(big.Int).Neg(a[i][j])
		}
	}
	return out
}

// mul lays every part by every part at its power of v and of u, and only then
// puts -1 for u u and 1 + u for v v v.
func (a plain) mul(b plain) plain {
	var wide [5][3]big.Int
	for i, x := range a {
		for j, y := range b {
			for k := range x {
				for l := range y {
					at := &wide[i+j][k+l]
					at.Add(at, new(big.Int).Mul(x[k], y[l]))
				}
			}
		}
	}
	for i := range wide {
		wide[i][0].Sub(&wide[i][0], &wide[i][2])
	}
	for i := 3; i < 5; i++ {
		x, y := &wide[i][0], &wide[i][1]
		wide[i-3][0].Add(&wide[i-3][0], new(big.Int).Sub(x, y))
		wide[i-3][1].Add(&wide[i-3][1], new(big.Int).Add(x, y))
	}
	var out plain
	for i := range out {
		for j := range out[i] {
			out[i][j] = new(big.Int).Mod(&wide[i][j], modulus())
		}
	}
	return out
}

// mixer makes the same numbers in each run.
type mixer uint64

func (m *mixer) next() uint64 {
	*m += 0x9e3779b97f4a7c15
	x := uint64(*m)
	x = (x ^ x>>30) * 0xbf58476d1ce4e5b9
	x = (x ^ x>>27) * 0x94d049bb133111eb
	return x ^ x>>31
}

// part has limbs at the edges often, where carries and borrows go on, and is
// below P.
func (m *mixer) part() api.Fp {
	out := make([]uint64, 6)
	for i := range out {
		switch m.next() % 8 {
		case 0:
			out[i] = 0
		case 1:
			out[i] = most
		case 2:
			out[i] = 1
		default:
			out[i] = m.next()
		}
	}
	return partOf(bigOf(out))
}

// number is one that may be.
func (m *mixer) number() api.Fp6 {
	return api.Fp6{{m.part(), m.part()}, {m.part(), m.part()}, {m.part(), m.part()}}
}

// parts are a part's edges: at both ends, in the middle, at a seam of limbs.
func parts() []api.Fp {
	return []api.Fp{{}, {1}, {2}, near(-1), near(-2), middle(-1), middle(1), {most, most, most}, {0, 0, 0, 1}}
}

// strangeParts are limbs that are not below P.
func strangeParts() []api.Fp {
	return []api.Fp{near(0), near(1), {0, 0, 0, 0, 0, 0x1a0111ea397fe69b}, {0, 0, 0, 0, 0, 1 << 63}, {most, most, most, most, most, most}}
}

// ends are all numbers whose parts are 0, 1 and P - 1.
func ends() []api.Fp6 {
	list := []api.Fp6{{}}
	for i := range 6 {
		for _, a := range list {
			for _, x := range []api.Fp{{1}, near(-1)} {
				list = append(list, with(a, i, x))
			}
		}
	}
	return list
}

// alone are the numbers of which one part alone is not 0: each part, each edge.
func alone() []api.Fp6 {
	var list []api.Fp6
	for i := range 6 {
		for _, x := range parts()[1:] {
			list = append(list, with(api.Fp6{}, i, x))
		}
	}
	return list
}

// pairsAlone are numbers of which one pair, or two of the three, are 0.
func pairsAlone(seed mixer) []api.Fp6 {
	var list []api.Fp6
	for i := range 3 {
		a, b := seed.number(), api.Fp6{}
		a[i], b[i] = api.Fp2{}, a[i]
		list = append(list, a, b)
	}
	return list
}

// with is a with x as its i-th part of six.
func with(a api.Fp6, i int, x api.Fp) api.Fp6 {
	a[i/2][i%2] = x
	return a
}

// many has the edges and n mixed numbers.
func many(seed mixer, n int) []api.Fp6 {
	list := slices.Concat(ends(), alone(), pairsAlone(seed))
	for range n {
		list = append(list, seed.number())
	}
	return list
}

// some have each part alone at its edges, some with all parts there, and
// mixed ones.
func some(seed mixer) []api.Fp6 {
	top := api.Fp2{near(-1), near(-1)}
	list := append(pairsAlone(seed), api.Fp6{}, api.Fp6{top, top, top}, seed.number())
	for i := range 6 {
		list = append(list, with(api.Fp6{}, i, api.Fp{1}), with(api.Fp6{}, i, near(-1)))
	}
	return list
}

// strange have one part of the six, or all, that is not below P.
func strange() []api.Fp6 {
	var list []api.Fp6
	for _, x := range strangeParts() {
		for i := range 6 {
			for _, a := range []api.Fp6{{}, one, {{{1}, near(-1)}, {near(-1), {1}}, {{2}, near(-2)}}} {
				list = append(list, with(a, i, x))
			}
		}
		list = append(list, api.Fp6{{x, x}, {x, x}, {x, x}})
	}
	return list
}

// twos calls do with many twos of edges and with mixed ones.
func twos(do func(a, b api.Fp6)) {
	for _, a := range many(1, 50) {
		for _, b := range some(2) {
			do(a, b)
			do(b, a)
		}
	}
	m := mixer(3)
	for range 2000 {
		do(m.number(), m.number())
	}
}

// is holds an answer against the tests' own reckoning.
func is(t *testing.T, what string, got api.Fp6, want plain) {
	t.Helper()
	if got != want.three() {
		t.Errorf("%s: %x, not %x", what, got, want.three())
	}
}
