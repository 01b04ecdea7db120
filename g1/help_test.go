package g1

import (
	"math"
	"math/big"
	"slices"
	"sync"
	"testing"

	"intaglio/api"
)

const most = uint64(math.MaxUint64)

var inf = api.G1{Inf: true}

// three is a place of the curve whose triple is Inf.
var three = api.G1{Y: api.Fp{2}}

func hex(text string) *big.Int {
	n, _ := new(big.Int).SetString(text, 16)
	return n
}

// prime and order read P and R as the document writes them, not from a
// package's limbs.
func prime() *big.Int {
	return hex("1a0111ea397fe69a4b1ba7b6434bacd764774b84f38512bf6730d2a0f6b0f6241eabfffeb153ffffb9feffffffffaaab")
}

func order() *big.Int {
	return hex("73eda753299d7d483339d80809a1d80553bda402fffe5bfeffffffff00000001")
}

// all is how many points the curve has: R, and 3 by the squares of 11, 10177,
// 859267 and 52437899.
func all() *big.Int {
	n := order()
	for _, q := range []int64{3, 11, 11, 10177, 10177, 859267, 859267, 52437899, 52437899} {
		n.Mul(n, big.NewInt(q))
	}
	return n
}

func bigOf(a []uint64) *big.Int {
	n := new(big.Int)
	for _, x := range slices.Backward(a) {
		n.Lsh(n, 64)
		n.Or(n, new(big.Int).SetUint64(x))
	}
	return n
}

// fill puts n's lowest limbs into out.
func fill(out []uint64, n *big.Int) {
	for i := range out {
		x := new(big.Int).Rsh(n, uint(64*i))
		out[i] = x.And(x, new(big.Int).SetUint64(most)).Uint64()
	}
}

func numberOf(n *big.Int) (out api.Fp) {
	fill(out[:], n)
	return out
}

// scalarOf is n modulo R, also of an n below 0.
func scalarOf(n *big.Int) (out api.Fr) {
	fill(out[:], new(big.Int).Mod(n, order()))
	return out
}

// nearP is P + d, which need not be below P.
func nearP(d int64) api.Fp {
	return numberOf(new(big.Int).Add(prime(), big.NewInt(d)))
}

// nearR is R + d, which need not be below R.
func nearR(d int64) (out api.Fr) {
	fill(out[:], new(big.Int).Add(order(), big.NewInt(d)))
	return out
}

// plain is a place as the library's great numbers have it, or (x nil) none:
// the tests' own reckoning, by the slopes of lines, without the layers below
// and without Jacobi's coordinates.
type plain struct{ x, y *big.Int }

func plainOf(p api.G1) plain {
	if p.Inf {
		return plain{}
	}
	return plain{bigOf(p.X[:]), bigOf(p.Y[:])}
}

func (a plain) point() api.G1 {
	if a.x == nil {
		return inf
	}
	return api.G1{X: numberOf(a.x), Y: numberOf(a.y)}
}

func (a plain) neg() plain {
	if a.x == nil {
		return a
	}
	y := new(big.Int).Neg(a.y)
	return plain{a.x, y.Mod(y, prime())}
}

// slope is that of the line through both, or of the one that touches in both;
// nil: it goes straight up.
func (a plain) slope(b plain) *big.Int {
	rise, run := new(big.Int).Sub(b.y, a.y), new(big.Int).Sub(b.x, a.x)
	if run.Sign() == 0 && rise.Sign() == 0 {
		rise.Mul(big.NewInt(3), new(big.Int).Mul(a.x, a.x))
		run.Lsh(a.y, 1)
	}
	if run.Mod(run, prime()).Sign() == 0 {
		return nil
	}
	return rise.Mul(rise, run.ModInverse(run, prime()))
}

func (a plain) add(b plain) plain {
	if a.x == nil {
		return b
	}
	if b.x == nil {
		return a
	}
	s := a.slope(b)
	if s == nil {
		return plain{}
	}
	x := new(big.Int).Mul(s, s)
	x.Sub(x.Sub(x, a.x), b.x)
	x.Mod(x, prime())
	y := new(big.Int).Sub(a.x, x)
	y.Sub(y.Mul(y, s), a.y)
	return plain{x, y.Mod(y, prime())}
}

// mul goes through the bits from the least one, unlike the package.
func (a plain) mul(k *big.Int) plain {
	out := plain{}
	for i := range k.BitLen() {
		if k.Bit(i) == 1 {
			out = out.add(a)
		}
		a = a.add(a)
	}
	return out
}

// right is x x x + 4.
func right(x *big.Int) *big.Int {
	n := new(big.Int).Exp(x, big.NewInt(3), prime())
	return n.Mod(n.Add(n, big.NewInt(4)), prime())
}

// at is the place of the curve at x, if there is one.
func at(x int64) (plain, bool) {
	n := new(big.Int).Mod(big.NewInt(x), prime())
	y := new(big.Int).ModSqrt(right(n), prime())
	return plain{n, y}, y != nil
}

// places are the places of the curve at the first n numbers that have one:
// these are of the whole curve, and not In.
func places(n int) []api.G1 {
	var out []api.G1
	for x := int64(0); len(out) < n; x++ {
		if a, is := at(x); is {
			out = append(out, a.point())
		}
	}
	return out
}

// ofOrder is a point of that order, a prime that divides all; seed tells from
// which place on one is looked for from which it can be worked out.
func ofOrder(q int64, seed int) api.G1 {
	k, by := all(), big.NewInt(q)
	for {
		less, rest := new(big.Int).QuoRem(k, by, new(big.Int))
		if rest.Sign() != 0 {
			break
		}
		k = less
	}
	a := plain{}
	for ; a.x == nil; seed++ {
		a = plainOf(places(seed + 1)[seed]).mul(k)
	}
	for next := a; next.x != nil; next = next.mul(by) {
		a = next
	}
	return a.point()
}

// smallOrders are the primes but R that divide all.
func smallOrders() []int64 {
	return []int64{3, 11, 10177, 859267, 52437899}
}

// mixer makes the same numbers in each run.
type mixer uint64

func (m *mixer) next() uint64 {
	*m += 0x9e3779b97f4a7c15
	x := uint64(*m)
	x = (x ^ x>>30) * 0xbf58476d1ce4e5b9
	x = (x ^ x>>27) * 0x94d049bb133111eb
	return x ^ x>>31
}

// scalar is one that may be; many of its limbs are at the edges.
func (m *mixer) scalar() api.Fr {
	var a api.Fr
	for i := range a {
		a[i] = []uint64{0, most, 1, m.next(), m.next(), m.next(), m.next(), m.next()}[m.next()%8]
	}
	return scalarOf(bigOf(a[:]))
}

// inside is a point In.
func (m *mixer) inside() api.G1 {
	k := m.scalar()
	return plainOf(One()).mul(bigOf(k[:])).point()
}

// outside is a point On that is not In.
func (m *mixer) outside() api.G1 {
	for {
		if a, is := at(int64(m.next() >> 1)); is {
			return a.point()
		}
	}
}

// points are the edges: Inf, the ones near One and their negatives, points of
// each small order, ones of two subgroups of one order, mixed ones of the
// group, and of the curve alone.
func points() []api.G1 {
	return slices.Clone(madePoints())
}

// madePoints works them out once: many tests go through them.
var madePoints = sync.OnceValue(func() []api.G1 {
	out := []api.G1{inf}
	g := plainOf(One())
	for k := int64(1); k <= 4; k++ {
		p := g.mul(big.NewInt(k))
		out = append(out, p.point(), p.neg().point())
	}
	for _, q := range smallOrders() {
		p := ofOrder(q, 1)
		out = append(out, p, plainOf(p).neg().point(), plainOf(p).add(g).point())
	}
	out = append(out, ofOrder(11, 2), ofOrder(11, 3))
	m := mixer(1)
	for range 4 {
		out = append(out, m.inside(), m.outside())
	}
	return append(out, places(6)...)
})

// twos calls do with all twos of edges and with mixed ones.
func twos(do func(p, q api.G1)) {
	list := points()
	for _, p := range list {
		for _, q := range list {
			do(p, q)
		}
	}
	m := mixer(2)
	for range 100 {
		do(m.inside(), m.outside())
		do(m.outside(), m.outside())
	}
}

// scalars are the edges: at both ends, in the middle, and at the seams of
// limbs.
func scalars() []api.Fr {
	half := new(big.Int).Rsh(order(), 1)
	return []api.Fr{
		{}, {1}, {2}, {3}, {4}, {5}, {7}, {8}, {11}, {1 << 63}, {most}, {0, 1}, {1, 1}, {most, most}, {0, 0, 1}, {most, most, most}, {0, 0, 0, 1},
		{0, 0, 0, 1 << 62}, {most, most, most, 0x73eda753299d7d47}, {0, 0, 0, 0x73eda753299d7d48},
		scalarOf(half), scalarOf(new(big.Int).Add(half, big.NewInt(1))), nearR(-1), nearR(-2), nearR(-3),
	}
}

// odd are points that are not On: an Inf with a place, a place beside the
// curve, and limbs that are not below P.
func odd() []api.G1 {
	g := One()
	full := api.Fp{most, most, most, most, most, most}
	out := []api.G1{
		{}, {X: g.X}, {Y: g.Y}, {X: g.Y, Y: g.X}, {X: api.Fp{1}, Y: api.Fp{1}}, {Y: api.Fp{3}}, {X: api.Fp{5}}, {X: full, Y: full},
		{X: nearP(0), Y: api.Fp{2}}, {Y: nearP(2)}, {Y: nearP(-1)}, {X: nearP(0), Y: nearP(0)},
		{X: g.X, Y: g.Y, Inf: true}, {X: g.X, Inf: true}, {Y: g.Y, Inf: true}, {Y: api.Fp{2}, Inf: true},
		{X: nearP(0), Inf: true}, {Y: nearP(0), Inf: true}, {X: full, Y: full, Inf: true},
	}
	for i := range 6 {
		var one api.Fp
		one[i] = 1
		out = append(out, api.G1{X: one, Inf: true}, api.G1{Y: one, Inf: true})
	}
	return out
}

// is holds an answer against the tests' own reckoning.
func is(t *testing.T, what string, got api.G1, want plain) {
	t.Helper()
	if got != want.point() {
		t.Errorf("%s: %v, not %v", what, got, want.point())
	}
}
