package g2

import (
	"math"
	"math/big"
	"slices"
	"sync"
	"testing"

	"intaglio/api"
)

const most = uint64(math.MaxUint64)

var inf = api.G2{Inf: true}

func hex(text string) *big.Int {
	n, _ := new(big.Int).SetString(text, 16)
	return n
}

var (
	theP = hex("1a0111ea397fe69a4b1ba7b6434bacd764774b84f38512bf6730d2a0f6b0f6241eabfffeb153ffffb9feffffffffaaab")
	theR = hex("73eda753299d7d483339d80809a1d80553bda402fffe5bfeffffffff00000001")
)

// prime and order read P and R as the document writes them, not from a
// package's limbs.
func prime() *big.Int {
	return theP
}

func order() *big.Int {
	return new(big.Int).Set(theR)
}

// greatOrder is the great prime, besides R, that divides how many points the
// curve has.
func greatOrder() *big.Int {
	return hex("8d9f503deeeb5d5c423572788bea4d6ae0490c5afca1eeb2a9d75bb98b95878afab9c0da5cf222c377d87384d026cd73826d177200c0d3b1")
}

// all is how many points the curve has: R, the great prime, the squares of 13
// and 23, and 2713, 11953, 262069.
func all() *big.Int {
	n := order()
	n.Mul(n, greatOrder())
	for _, q := range []int64{13, 13, 23, 23, 2713, 11953, 262069} {
		n.Mul(n, big.NewInt(q))
	}
	return n
}

func bigOf(a []uint64) *big.Int {
	n := new(big.Int)
	for _, x := range slices.Backward(a) {
		n.Lsh(n, 64)
		n.Or(n, new(big.Int).SetUint64(x))
	}
	return n
}

// fill puts n's lowest limbs into out.
func fill(out []uint64, n *big.Int) {
	for i := range out {
		x := new(big.Int).Rsh(n, uint(64*i))
		out[i] = x.And(x, new(big.Int).SetUint64(most)).Uint64()
	}
}

func partOf(n *big.Int) (out api.Fp) {
	fill(out[:], n)
	return out
}

// scalarOf is n modulo R, also of an n below 0.
func scalarOf(n *big.Int) (out api.Fr) {
	fill(out[:], new(big.Int).Mod(n, order()))
	return out
}

// nearP is P + d, which need not be below P.
func nearP(d int64) api.Fp {
	return partOf(new(big.Int).Add(prime(), big.NewInt(d)))
}

// nearR is R + d, which need not be below R.
func nearR(d int64) (out api.Fr) {
	fill(out[:], new(big.Int).Add(order(), big.NewInt(d)))
	return out
}

// two is a pair as the library's great numbers have it, both parts below P.
type two [2]*big.Int

// below is x + y u, both brought below P.
func below(x, y *big.Int) two {
	return two{new(big.Int).Mod(x, prime()), new(big.Int).Mod(y, prime())}
}

func small(x, y int64) two {
	return below(big.NewInt(x), big.NewInt(y))
}

func twoOf(a api.Fp2) two {
	return two{bigOf(a[0][:]), bigOf(a[1][:])}
}

func (a two) pair() api.Fp2 {
	return api.Fp2{partOf(a[0]), partOf(a[1])}
}

func (a two) isNought() bool {
	return a[0].Sign() == 0 && a[1].Sign() == 0
}

func (a two) is(b two) bool {
	return a.sub(b).isNought()
}

func (a two) add(b two) two {
	return below(new(big.Int).Add(a[0], b[0]), new(big.Int).Add(a[1], b[1]))
}

func (a two) sub(b two) two {
	return below(new(big.Int).Sub(a[0], b[0]), new(big.Int).Sub(a[1], b[1]))
}

func (a two) mul(b two) two {
	x := new(big.Int).Mul(a[0], b[0])
	x.Sub(x, new(big.Int).Mul(a[1], b[1]))
	y := new(big.Int).Mul(a[0], b[1])
	return below(x, y.Add(y, new(big.Int).Mul(a[1], b[0])))
}

func (a two) inv() two {
	norm := new(big.Int).Mul(a[0], a[0])
	norm.Add(norm, new(big.Int).Mul(a[1], a[1]))
	norm.ModInverse(norm.Mod(norm, prime()), prime())
	return two{a[0], new(big.Int).Neg(a[1])}.mul(two{norm, new(big.Int)})
}

// pow goes through the bits from the least one.
func (a two) pow(e *big.Int) two {
	out := small(1, 0)
	for i := range e.BitLen() {
		if e.Bit(i) == 1 {
			out = out.mul(a)
		}
		a = a.mul(a)
	}
	return out
}

// root is a number whose square is a, if there is one, by powers of a and of
// 1 + what a is turned by: not the way of layer 5.
func (a two) root() (two, bool) {
	half := new(big.Int).Rsh(prime(), 1)
	quarter := new(big.Int).Rsh(prime(), 2)
	up := a.pow(quarter)
	turn := up.mul(up).mul(a)
	out := up.mul(a)
	if turn.is(small(-1, 0)) {
		out = out.mul(small(0, 1))
	} else {
		out = out.mul(turn.add(small(1, 0)).pow(half))
	}
	return out, out.mul(out).is(a)
}

// plain is a place as the library's great numbers have it, or (has false)
// none: the tests' own reckoning, by the slopes of lines, without the layers
// below and without Jacobi's coordinates.
type plain struct {
	x, y two
	has  bool
}

func plainOf(p api.G2) plain {
	if p.Inf {
		return plain{}
	}
	return plain{twoOf(p.X), twoOf(p.Y), true}
}

func (a plain) point() api.G2 {
	if !a.has {
		return inf
	}
	return api.G2{X: a.x.pair(), Y: a.y.pair()}
}

func (a plain) neg() plain {
	if !a.has {
		return a
	}
	return plain{a.x, small(0, 0).sub(a.y), true}
}

// slope is that of the line through both, or of the one that touches in both;
// no: it goes straight up.
func (a plain) slope(b plain) (two, bool) {
	rise, run := b.y.sub(a.y), b.x.sub(a.x)
	if run.isNought() && rise.isNought() {
		rise, run = small(3, 0).mul(a.x.mul(a.x)), a.y.add(a.y)
	}
	if run.isNought() {
		return two{}, false
	}
	return rise.mul(run.inv()), true
}

func (a plain) add(b plain) plain {
	if !a.has {
		return b
	}
	if !b.has {
		return a
	}
	s, is := a.slope(b)
	if !is {
		return plain{}
	}
	x := s.mul(s).sub(a.x).sub(b.x)
	return plain{x, a.x.sub(x).mul(s).sub(a.y), true}
}

// mul goes through the bits from the least one, unlike the package.
func (a plain) mul(k *big.Int) plain {
	out := plain{}
	for i := range k.BitLen() {
		if k.Bit(i) == 1 {
			out = out.add(a)
		}
		a = a.add(a)
	}
	return out
}

// right is x x x + 4 (1 + u).
func right(x two) two {
	return x.mul(x).mul(x).add(small(4, 4))
}

// at is the place of the curve at x, if there is one.
func at(x two) (plain, bool) {
	y, is := right(x).root()
	return plain{x, y, is}, is
}

// places are places of the curve at the first n numbers x + k u that have
// one: these are of the whole curve, and not In.
func places(n int) []api.G2 {
	var out []api.G2
	for i := int64(1); len(out) < n; i++ {
		if a, is := at(small(i%3, i)); is {
			out = append(out, a.point())
		}
	}
	return out
}

// ofOrder is a point of that order, a prime that divides all; seed tells from
// which place on one is looked for from which it can be worked out.
func ofOrder(q int64, seed int) api.G2 {
	k, by := all(), big.NewInt(q)
	for {
		less, rest := new(big.Int).QuoRem(k, by, new(big.Int))
		if rest.Sign() != 0 {
			break
		}
		k = less
	}
	a := plain{}
	for ; !a.has; seed++ {
		a = plainOf(places(seed + 1)[seed]).mul(k)
	}
	for next := a; next.has; next = next.mul(by) {
		a = next
	}
	return a.point()
}

// smallOrders are the small primes that divide all.
func smallOrders() []int64 {
	return []int64{13, 23, 2713, 11953, 262069}
}

// thirteen is a point whose thirteenth multiple is Inf, so that few steps go
// all the way round.
var thirteen = ofOrder(13, 0)

// mixer makes the same numbers in each run.
type mixer uint64

func (m *mixer) next() uint64 {
	*m += 0x9e3779b97f4a7c15
	x := uint64(*m)
	x = (x ^ x>>30) * 0xbf58476d1ce4e5b9
	x = (x ^ x>>27) * 0x94d049bb133111eb
	return x ^ x>>31
}

// scalar is one that may be; many of its limbs are at the edges.
func (m *mixer) scalar() api.Fr {
	var a api.Fr
	for i := range a {
		a[i] = []uint64{0, most, 1, m.next(), m.next(), m.next(), m.next(), m.next()}[m.next()%8]
	}
	return scalarOf(bigOf(a[:]))
}

// inside is a point In.
func (m *mixer) inside() api.G2 {
	k := m.scalar()
	return plainOf(One()).mul(bigOf(k[:])).point()
}

// outside is a point On that is not In.
func (m *mixer) outside() api.G2 {
	for {
		if a, is := at(small(int64(m.next()>>1), int64(m.next()>>1))); is {
			return a.point()
		}
	}
}

// points are the edges: Inf, the ones near One and their negatives, points of
// each small order, mixed ones of the group, and of the curve alone.
func points() []api.G2 {
	return slices.Clone(madePoints())
}

// madePoints works them out once: many tests go through them.
var madePoints = sync.OnceValue(func() []api.G2 {
	out := []api.G2{inf}
	g := plainOf(One())
	for k := int64(1); k <= 3; k++ {
		p := g.mul(big.NewInt(k))
		out = append(out, p.point(), p.neg().point())
	}
	for _, q := range smallOrders() {
		p := ofOrder(q, 1)
		out = append(out, p, plainOf(p).neg().point(), plainOf(p).add(g).point())
	}
	m := mixer(1)
	for range 2 {
		out = append(out, m.inside(), m.outside())
	}
	return append(out, places(3)...)
})

// twos calls do with all twos of edges and with mixed ones.
func twos(do func(p, q api.G2)) {
	list := points()
	for _, p := range list {
		for _, q := range list {
			do(p, q)
		}
	}
	m := mixer(2)
	for range 20 {
		do(m.inside(), m.outside())
		do(m.outside(), m.outside())
	}
}

// scalars are the edges: at both ends, in the middle, and at the seams of
// limbs.
func scalars() []api.Fr {
	half := new(big.Int).Rsh(order(), 1)
	return []api.Fr{
		{}, {1}, {2}, {3}, {4}, {5}, {7}, {8}, {13}, {1 << 63}, {most}, {0, 1}, {1, 1}, {most, most}, {0, 0, 1}, {most, most, most}, {0, 0, 0, 1},
		{0, 0, 0, 1 << 62}, {most, most, most, 0x73eda753299d7d47}, {0, 0, 0, 0x73eda753299d7d48},
		scalarOf(half), scalarOf(new(big.Int).Add(half, big.NewInt(1))), nearR(-1), nearR(-2), nearR(-3),
	}
}

// oddParts are parts that are not below P.
func oddParts() []api.Fp {
	return []api.Fp{nearP(0), nearP(1), {0, 0, 0, 0, 0, 1 << 63}, {most, most, most, most, most, most}}
}

// odd are points that are not On: an Inf with a place, a place beside the
// curve, and limbs that are not below P.
func odd() []api.G2 {
	g := One()
	out := []api.G2{
		{}, {X: g.X}, {Y: g.Y}, {X: g.Y, Y: g.X}, {X: api.Fp2{{1}}, Y: api.Fp2{{1}}}, {Y: api.Fp2{{2}}}, {Y: api.Fp2{{2}, {2}}},
		{X: api.Fp2{g.X[1], g.X[0]}, Y: g.Y}, {X: g.X, Y: api.Fp2{g.Y[1], g.Y[0]}}, {X: api.Fp2{g.X[1], g.X[0]}, Y: api.Fp2{g.Y[1], g.Y[0]}},
		{X: g.X, Y: g.Y, Inf: true}, {X: g.X, Inf: true}, {Y: g.Y, Inf: true},
	}
	for _, x := range oddParts() {
		for _, a := range []api.Fp2{{x}, {{}, x}, {x, x}} {
			out = append(out, api.G2{X: a, Y: g.Y}, api.G2{X: g.X, Y: a}, api.G2{X: a, Y: a}, api.G2{X: a, Inf: true}, api.G2{Y: a, Inf: true})
		}
	}
	for i := range 12 {
		var one api.Fp2
		one[i/6][i%6] = 1
		out = append(out, api.G2{X: one, Inf: true}, api.G2{Y: one, Inf: true})
	}
	return out
}

// is holds an answer against the tests' own reckoning.
func is(t *testing.T, what string, got api.G2, want plain) {
	t.Helper()
	if got != want.point() {
		t.Errorf("%s: %v, not %v", what, got, want.point())
	}
}
