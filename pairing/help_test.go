package pairing

import (
	"math"
	"math/big"
	"slices"
	"sync"
	"testing"

	"intaglio/api"
	"intaglio/fp12"
	"intaglio/g1"
	"intaglio/g2"
)

const most = uint64(math.MaxUint64)

var (
	inf1 = api.G1{Inf: true}
	inf2 = api.G2{Inf: true}
	one  = api.Fp12{{{{1}}}}
)

func hex(text string) *big.Int {
	n, _ := new(big.Int).SetString(text, 16)
	return n
}

// prime, order and steps are P, R and the loop's number as the document writes
// them, not from a package's limbs.
var (
	prime = hex("1a0111ea397fe69a4b1ba7b6434bacd764774b84f38512bf6730d2a0f6b0f6241eabfffeb153ffffb9feffffffffaaab")
	order = hex("73eda753299d7d483339d80809a1d80553bda402fffe5bfeffffffff00000001")
	steps = hex("d201000000010000")
)

// toThe is P^n.
func toThe(n int64) *big.Int {
	return new(big.Int).Exp(prime, big.NewInt(n), nil)
}

// lastPower is (P^12 - 1) / R.
func lastPower() *big.Int {
	n := toThe(12)
	return n.Div(n.Sub(n, big.NewInt(1)), order)
}

// all1 is how many points the curve has, but for R.
func all1() *big.Int {
	n := big.NewInt(3)
	for _, q := range []int64{11, 11, 10177, 10177, 859267, 859267, 52437899, 52437899} {
		n.Mul(n, big.NewInt(q))
	}
	return n
}

// all2 is how many points the curve over pairs has, but for R.
func all2() *big.Int {
	n := hex("8d9f503deeeb5d5c423572788bea4d6ae0490c5afca1eeb2a9d75bb98b95878afab9c0da5cf222c377d87384d026cd73826d177200c0d3b1")
	for _, q := range []int64{13, 13, 23, 23, 2713, 11953, 262069} {
		n.Mul(n, big.NewInt(q))
	}
	return n
}

func bigOf(a []uint64) *big.Int {
	n := new(big.Int)
	for _, x := range slices.Backward(a) {
		n.Lsh(n, 64)
		n.Or(n, new(big.Int).SetUint64(x))
	}
	return n
}

// fill puts n's lowest limbs into out.
func fill(out []uint64, n *big.Int) {
	for i := range out {
		x := new(big.Int).Rsh(n, uint(64*i))
		out[i] = x.And(x, new(big.Int).SetUint64(most)).Uint64()
	}
}

// limbsOf has as many limbs as n needs.
func limbsOf(n *big.Int) []uint64 {
	out := make([]uint64, (n.BitLen()+63)/64)
	fill(out, n)
	return out
}

// numberOf is n modulo P, also of an n below 0.
func numberOf(n *big.Int) (out api.Fp) {
	fill(out[:], new(big.Int).Mod(n, prime))
	return out
}

// scalarOf is n modulo R, also of an n below 0.
func scalarOf(n *big.Int) (out api.Fr) {
	fill(out[:], new(big.Int).Mod(n, order))
	return out
}

// nearP is P + d, which need not be below P.
func nearP(d int64) (out api.Fp) {
	fill(out[:], new(big.Int).Add(prime, big.NewInt(d)))
	return out
}

// plain is a six as the library's great numbers have it: the tests' own
// reckoning, without the layers below and on another footing. w^6 is 1 + u, so
// u is w^6 - 1, and that u u is -1 says that w^12 is 2 w^6 - 2: a number is
// twelve numbers below P, at the powers of w alone.
type plain [12]*big.Int

// plainOf reads the pair [i][j] as the one that stands at w^(2 j + i).
func plainOf(a api.Fp12) plain {
	var out plain
	for i := range a {
		for j := range a[i] {
			k := 2*j + i
			x, y := bigOf(a[i][j][0][:]), bigOf(a[i][j][1][:])
			out[k], out[k+6] = x.Sub(x, y), y
		}
	}
	return out
}

func (a plain) six() api.Fp12 {
	var out api.Fp12
	for i := range out {
		for j := range out[i] {
			k := 2*j + i
			out[i][j] = api.Fp2{numberOf(new(big.Int).Add(a[k], a[k+6])), numberOf(a[k+6])}
		}
	}
	return out
}

// at is n at w^k.
func at(k int, n *big.Int) plain {
	out := plainOf(api.Fp12{})
	out[k] = n
	return out
}

func (a plain) sub(b plain) plain {
	var out plain
	for k := range a {
		out[k] = new(big.Int).Sub(a[k], b[k])
	}
	return out
}

func (a plain) mul(b plain) plain {
	var wide [23]big.Int
	for i, x := range a {
		for j, y := range b {
			if x.Sign() != 0 && y.Sign() != 0 {
				wide[i+j].Add(&wide[i+j], new(big.Int).Mul(x, y))
			}
		}
	}
	for k := 22; k >= 12; k-- {
		twice := new(big.Int).Lsh(&wide[k], 1)
		wide[k-6].Add(&wide[k-6], twice)
		wide[k-12].Sub(&wide[k-12], twice)
	}
	var out plain
	for k := range out {
		out[k] = new(big.Int).Mod(&wide[k], prime)
	}
	return out
}

// pow goes through the bits from the least one, unlike the layers.
func (a plain) pow(e *big.Int) plain {
	out := plainOf(one)
	for i := range e.BitLen() {
		if e.Bit(i) == 1 {
			out = out.mul(a)
		}
		a = a.mul(a)
	}
	return out
}

// two is a pair as the library's great numbers have it, both parts below P.
type two [2]*big.Int

// below is x + y u, both brought below P.
func below(x, y *big.Int) two {
	return two{new(big.Int).Mod(x, prime), new(big.Int).Mod(y, prime)}
}

func small(x, y int64) two {
	return below(big.NewInt(x), big.NewInt(y))
}

func twoOf(a api.Fp2) two {
	return two{bigOf(a[0][:]), bigOf(a[1][:])}
}

func (a two) pair() api.Fp2 {
	return api.Fp2{numberOf(a[0]), numberOf(a[1])}
}

// plain is a among the sixes.
func (a two) plain() plain {
	return plainOf(api.Fp12{{a.pair()}})
}

func (a two) isNought() bool {
	return a[0].Sign() == 0 && a[1].Sign() == 0
}

func (a two) is(b two) bool {
	return a.sub(b).isNought()
}

func (a two) add(b two) two {
	return below(new(big.Int).Add(a[0], b[0]), new(big.Int).Add(a[1], b[1]))
}

func (a two) sub(b two) two {
	return below(new(big.Int).Sub(a[0], b[0]), new(big.Int).Sub(a[1], b[1]))
}

func (a two) mul(b two) two {
	x := new(big.Int).Mul(a[0], b[0])
	x.Sub(x, new(big.Int).Mul(a[1], b[1]))
	y := new(big.Int).Mul(a[0], b[1])
	return below(x, y.Add(y, new(big.Int).Mul(a[1], b[0])))
}

func (a two) inv() two {
	norm := new(big.Int).Mul(a[0], a[0])
	norm.Add(norm, new(big.Int).Mul(a[1], a[1]))
	norm.ModInverse(norm.Mod(norm, prime), prime)
	return two{a[0], new(big.Int).Neg(a[1])}.mul(two{norm, new(big.Int)})
}

// pow goes through the bits from the least one.
func (a two) pow(e *big.Int) two {
	out := small(1, 0)
	for i := range e.BitLen() {
		if e.Bit(i) == 1 {
			out = out.mul(a)
		}
		a = a.mul(a)
	}
	return out
}

// root is a number whose square is a, if there is one.
func (a two) root() (two, bool) {
	half, quarter := new(big.Int).Rsh(prime, 1), new(big.Int).Rsh(prime, 2)
	up := a.pow(quarter)
	turn := up.mul(up).mul(a)
	out := up.mul(a)
	if turn.is(small(-1, 0)) {
		out = out.mul(small(0, 1))
	} else {
		out = out.mul(turn.add(small(1, 0)).pow(half))
	}
	return out, out.mul(out).is(a)
}

// spot is a place of the curve over pairs, as great numbers.
type spot struct{ x, y two }

// slope is that of the line through both, or of the one that touches in both.
func (a spot) slope(b spot) two {
	rise, run := b.y.sub(a.y), b.x.sub(a.x)
	if run.isNought() {
		rise, run = small(3, 0).mul(a.x.mul(a.x)), a.y.add(a.y)
	}
	return rise.mul(run.inv())
}

func (a spot) add(b spot) spot {
	s := a.slope(b)
	x := s.mul(s).sub(a.x).sub(b.x)
	return spot{x, a.x.sub(x).mul(s).sub(a.y)}
}

// backs is w^-k: 2 w^5 - w^11 is 2 w^-1, since w^12 is 2 w^6 - 2.
func backs(k int64) plain {
	half := new(big.Int).ModInverse(big.NewInt(2), prime)
	back := at(11, half.Neg(half))
	back[5] = big.NewInt(1)
	return back.pow(big.NewInt(k))
}

// view is what is seen from p: its place, and what takes a spot to the curve
// over sixes.
type view struct{ x, y, back, back2, back3 plain }

func viewOf(p api.G1) view {
	return view{at(0, bigOf(p.X[:])), at(0, bigOf(p.Y[:])), backs(1), backs(2), backs(3)}
}

// line is the value at p of the line through a and b, both taken to the curve
// over sixes.
func (v view) line(a, b spot) plain {
	s := a.slope(b).plain().mul(v.back)
	x, y := a.x.plain().mul(v.back2), a.y.plain().mul(v.back3)
	return v.y.sub(y).sub(s.mul(v.x.sub(x)))
}

// upright is the value at p of the line that goes straight up through a.
func (v view) upright(a spot) plain {
	return v.x.sub(a.x.plain().mul(v.back2))
}

// reckoned holds e against the pairing by the tests' own reckoning, none of p
// and q Inf: all lines of Miller's loop, those that go straight up too, whose
// values are divided by, and then the whole power by its own bits.
func reckoned(e api.Fp12, p api.G1, q api.G2) bool {
	v, start := viewOf(p), spot{twoOf(q.X), twoOf(q.Y)}
	value, divisor, now := plainOf(one), plainOf(one), start
	step := func(b spot) {
		value = value.mul(v.line(now, b))
		now = now.add(b)
		divisor = divisor.mul(v.upright(now))
	}
	for i := steps.BitLen() - 2; i >= 0; i-- {
		value, divisor = value.mul(value), divisor.mul(divisor)
		step(now)
		if steps.Bit(i) == 1 {
			step(start)
		}
	}
	up, down := value.pow(lastPower()), divisor.pow(lastPower())
	return plainOf(e).mul(down).six() == up.six()
}

// mixer makes the same numbers in each run.
type mixer uint64

func (m *mixer) next() uint64 {
	*m += 0x9e3779b97f4a7c15
	x := uint64(*m)
	x = (x ^ x>>30) * 0xbf58476d1ce4e5b9
	x = (x ^ x>>27) * 0x94d049bb133111eb
	return x ^ x>>31
}

// number is below P.
func (m *mixer) number() *big.Int {
	var a api.Fp
	for i := range a {
		a[i] = m.next()
	}
	n := bigOf(a[:])
	return n.Mod(n, prime)
}

func (m *mixer) scalar() api.Fr {
	return scalarOf(m.number())
}

// six is a mixed number of twelve parts.
func (m *mixer) six() (out api.Fp12) {
	for i := range 12 {
		out[i/6][i/2%3][i%2] = numberOf(m.number())
	}
	return out
}

func (m *mixer) inside1() api.G1 {
	return g1.Mul(g1.One(), m.scalar())
}

func (m *mixer) inside2() api.G2 {
	return g2.Mul(g2.One(), m.scalar())
}

// outside1 is a place of the curve that is not In.
func (m *mixer) outside1() api.G1 {
	for {
		x := m.number()
		right := new(big.Int).Exp(x, big.NewInt(3), prime)
		right.Mod(right.Add(right, big.NewInt(4)), prime)
		if y := new(big.Int).ModSqrt(right, prime); y != nil {
			return api.G1{X: numberOf(x), Y: numberOf(y)}
		}
	}
}

// outside2 is a place of the curve over pairs that is not In.
func (m *mixer) outside2() api.G2 {
	for {
		x := two{m.number(), m.number()}
		if y, is := x.mul(x).mul(x).add(small(4, 4)).root(); is {
			return api.G2{X: x.pair(), Y: y.pair()}
		}
	}
}

// scalars are the edges: at both ends and in the middle, and n mixed ones.
func scalars(seed mixer, n int) []api.Fr {
	half := new(big.Int).Rsh(order, 1)
	out := []api.Fr{{}, {1}, {2}, {7}, {0, 0, 1}, scalarOf(half), scalarOf(big.NewInt(-2)), scalarOf(big.NewInt(-1))}
	for range n {
		out = append(out, seed.scalar())
	}
	return out
}

// by is a b modulo R, as limbs.
func by(a, b api.Fr) []uint64 {
	n := new(big.Int).Mul(bigOf(a[:]), bigOf(b[:]))
	return limbsOf(n.Mod(n, order))
}

// times1 is a times p, of an a that may be above R: in steps that layer 8 takes.
func times1(p api.G1, a *big.Int) api.G1 {
	out := inf1
	for i := a.BitLen() - 1; i >= 0; i-- {
		out = g1.Add(out, out)
		if a.Bit(i) == 1 {
			out = g1.Add(out, p)
		}
	}
	return out
}

// times2 is times1 on the curve over pairs.
func times2(p api.G2, a *big.Int) api.G2 {
	out := inf2
	for i := a.BitLen() - 1; i >= 0; i-- {
		out = g2.Add(out, out)
		if a.Bit(i) == 1 {
			out = g2.Add(out, p)
		}
	}
	return out
}

// without is n by q as often as q divides it.
func without(n *big.Int, q int64) *big.Int {
	for {
		less, rest := new(big.Int).QuoRem(n, big.NewInt(q), new(big.Int))
		if rest.Sign() != 0 {
			return n
		}
		n = less
	}
}

// outside1 are points that are not In: On, of small orders, and ones of the
// group with one of them added, and mixed ones; then some that are not On.
var outside1 = sync.OnceValue(func() []api.G1 {
	m := mixer(3)
	out := []api.G1{{Y: api.Fp{2}}, {Y: nearP(-2)}}
	for _, q := range []int64{3, 11, 10177, 859267, 52437899} {
		p := inf1
		for p.Inf {
			p = times1(m.outside1(), new(big.Int).Mul(order, without(all1(), q)))
		}
		out = append(out, p, g1.Neg(p), g1.Add(p, g1.One()))
	}
	return append(append(out, m.outside1(), m.outside1()), odd1()...)
})

// odd1 are points that are not On.
func odd1() []api.G1 {
	g, full := g1.One(), api.Fp{most, most, most, most, most, most}
	return []api.G1{
		{}, {X: g.X}, {Y: g.Y}, {X: g.Y, Y: g.X}, {X: api.Fp{1}, Y: api.Fp{1}}, {Y: api.Fp{3}}, {X: full, Y: full},
		{X: nearP(0), Y: api.Fp{2}}, {Y: nearP(2)}, {X: nearP(0), Y: nearP(0)}, {X: g.X, Y: full}, {X: full, Y: g.Y},
		{X: g.X, Y: g.Y, Inf: true}, {X: g.X, Inf: true}, {Y: g.Y, Inf: true}, {X: api.Fp{1}, Inf: true}, {Y: api.Fp{0, 0, 0, 0, 0, 1}, Inf: true},
		{X: nearP(0), Inf: true}, {Y: nearP(0), Inf: true}, {X: full, Y: full, Inf: true},
	}
}

// outside2 is outside1 on the curve over pairs.
var outside2 = sync.OnceValue(func() []api.G2 {
	m := mixer(4)
	var out []api.G2
	for _, q := range []int64{13, 23, 2713, 11953, 262069} {
		p := inf2
		for p.Inf {
			p = times2(m.outside2(), new(big.Int).Mul(order, without(all2(), q)))
		}
		out = append(out, p, g2.Neg(p), g2.Add(p, g2.One()))
	}
	return append(append(out, m.outside2(), m.outside2()), odd2()...)
})

// odd2 are points of pairs that are not On.
func odd2() []api.G2 {
	g, p := g2.One(), nearP(0)
	full := api.Fp2{{most, most, most, most, most, most}, {most, most, most, most, most, most}}
	return []api.G2{
		{}, {X: g.X}, {Y: g.Y}, {X: g.Y, Y: g.X}, {X: api.Fp2{{1}}, Y: api.Fp2{{1}}}, {Y: api.Fp2{{2}}}, {Y: api.Fp2{{2}, {2}}}, {X: full, Y: full},
		{X: api.Fp2{g.X[1], g.X[0]}, Y: g.Y}, {X: g.X, Y: api.Fp2{g.Y[1], g.Y[0]}}, {X: api.Fp2{p, g.X[1]}, Y: g.Y}, {X: g.X, Y: api.Fp2{g.Y[0], p}}, {X: full, Y: g.Y}, {X: g.X, Y: full},
		{X: g.X, Y: g.Y, Inf: true}, {X: g.X, Inf: true}, {Y: g.Y, Inf: true}, {X: api.Fp2{{}, {1}}, Inf: true}, {Y: api.Fp2{{0, 0, 0, 0, 0, 1}}, Inf: true},
		{X: api.Fp2{p}, Inf: true}, {Y: api.Fp2{{}, p}, Inf: true}, {X: full, Y: full, Inf: true},
	}
}

// pairs are n of points In whose a[i] b[i], the numbers by which they are
// multiples of g1 and g2, sum to 0; n is at least 2.
func pairs(seed mixer, n int) []api.Pair {
	var out []api.Pair
	sum := new(big.Int)
	for range n - 1 {
		a, b := seed.scalar(), seed.scalar()
		out = append(out, api.Pair{P: g1.Mul(g1.One(), a), Q: g2.Mul(g2.One(), b)})
		sum.Add(sum, new(big.Int).Mul(bigOf(a[:]), bigOf(b[:])))
	}
	b := seed.scalar()
	a := sum.Mul(sum.Neg(sum), new(big.Int).ModInverse(bigOf(b[:]), order))
	return append(out, api.Pair{P: g1.Mul(g1.One(), scalarOf(a)), Q: g2.Mul(g2.One(), b)})
}

// pairOf is a g1 and b g2.
func pairOf(a, b int64) api.Pair {
	return api.Pair{P: g1.Mul(g1.One(), scalarOf(big.NewInt(a))), Q: g2.Mul(g2.One(), scalarOf(big.NewInt(b)))}
}

// checks holds Check against an answer that is known.
func checks(t *testing.T, what string, l []api.Pair, want bool) {
	t.Helper()
	if Check(l) != want {
		t.Errorf("%s: Check(%v): %t", what, l, !want)
	}
}

// productOf is that of all Of.
func productOf(l []api.Pair) api.Fp12 {
	out := one
	for _, x := range l {
		out = fp12.Mul(out, Of(x.P, x.Q))
	}
	return out
}
