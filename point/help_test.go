package point

import (
	"bytes"
	"math"
	"math/big"
	"slices"
	"sync"
	"testing"

	"intaglio/api"
	"intaglio/g1"
	"intaglio/g2"
)

const most = uint64(math.MaxUint64)

var (
	inf1 = api.G1{Inf: true}
	inf2 = api.G2{Inf: true}
)

func hex(text string) *big.Int {
	n, _ := new(big.Int).SetString(text, 16)
	return n
}

// prime and order are P and R as the document writes them, not from a
// package's limbs.
var (
	prime = hex("1a0111ea397fe69a4b1ba7b6434bacd764774b84f38512bf6730d2a0f6b0f6241eabfffeb153ffffb9feffffffffaaab")
	order = hex("73eda753299d7d483339d80809a1d80553bda402fffe5bfeffffffff00000001")
)

// all2 is how many points the curve over pairs has, but for R.
func all2() *big.Int {
	n := hex("8d9f503deeeb5d5c423572788bea4d6ae0490c5afca1eeb2a9d75bb98b95878afab9c0da5cf222c377d87384d026cd73826d177200c0d3b1")
	for _, q := range []int64{13, 13, 23, 23, 2713, 11953, 262069} {
		n.Mul(n, big.NewInt(q))
	}
	return n
}

// all1 is how many points the curve has, but for R.
func all1() *big.Int {
	n := big.NewInt(3)
	for _, q := range []int64{11, 11, 10177, 10177, 859267, 859267, 52437899, 52437899} {
		n.Mul(n, big.NewInt(q))
	}
	return n
}

func bigOf(a []uint64) *big.Int {
	n := new(big.Int)
	for _, x := range slices.Backward(a) {
		n.Lsh(n, 64)
		n.Or(n, new(big.Int).SetUint64(x))
	}
	return n
}

// fill puts n's lowest limbs into out.
func fill(out []uint64, n *big.Int) {
	for i := range out {
		x := new(big.Int).Rsh(n, uint(64*i))
		out[i] = x.And(x, new(big.Int).SetUint64(most)).Uint64()
	}
}

func numberOf(n *big.Int) (out api.Fp) {
	fill(out[:], n)
	return out
}

// scalarOf is n modulo R, also of an n below 0.
func scalarOf(n *big.Int) (out api.Fr) {
	fill(out[:], new(big.Int).Mod(n, order))
	return out
}

// nearP is P + d.
func nearP(d int64) *big.Int {
	return new(big.Int).Add(prime, big.NewInt(d))
}

// isGreat tells whether n is above (P - 1) / 2.
func isGreat(n *big.Int) bool {
	return n.Cmp(new(big.Int).Rsh(prime, 1)) > 0
}

// two is a pair as the library's great numbers have it, both parts below P.
type two [2]*big.Int

// below is x + y u, both brought below P.
func below(x, y *big.Int) two {
	return two{new(big.Int).Mod(x, prime), new(big.Int).Mod(y, prime)}
}

func small(x, y int64) two {
	return below(big.NewInt(x), big.NewInt(y))
}

func twoOf(a api.Fp2) two {
	return two{bigOf(a[0][:]), bigOf(a[1][:])}
}

func (a two) pair() api.Fp2 {
	return api.Fp2{numberOf(a[0]), numberOf(a[1])}
}

func (a two) is(b two) bool {
	return a[0].Cmp(b[0]) == 0 && a[1].Cmp(b[1]) == 0
}

func (a two) add(b two) two {
	return below(new(big.Int).Add(a[0], b[0]), new(big.Int).Add(a[1], b[1]))
}

func (a two) neg() two {
	return below(new(big.Int).Neg(a[0]), new(big.Int).Neg(a[1]))
}

func (a two) mul(b two) two {
	x := new(big.Int).Mul(a[0], b[0])
	x.Sub(x, new(big.Int).Mul(a[1], b[1]))
	y := new(big.Int).Mul(a[0], b[1])
	return below(x, y.Add(y, new(big.Int).Mul(a[1], b[0])))
}

// pow goes through the bits from the least one.
func (a two) pow(e *big.Int) two {
	out := small(1, 0)
	for i := range e.BitLen() {
		if e.Bit(i) == 1 {
			out = out.mul(a)
		}
		a = a.mul(a)
	}
	return out
}

// root is a number whose square is a, if there is one, by powers of a and of
// 1 + what a is turned by: not the way of layer 5.
func (a two) root() (two, bool) {
	half, quarter := new(big.Int).Rsh(prime, 1), new(big.Int).Rsh(prime, 2)
	up := a.pow(quarter)
	turn := up.mul(up).mul(a)
	out := up.mul(a)
	if turn.is(small(-1, 0)) {
		out = out.mul(small(0, 1))
	} else {
		out = out.mul(turn.add(small(1, 0)).pow(half))
	}
	return out, out.mul(out).is(a)
}

// thirdRoot is a number whose third power is a, if there is one.
func (a two) thirdRoot() (two, bool) {
	// P P - 1 is a power of 3 by rest: the power undoes the cube but for
	// numbers whose order is a power of 3, and these are few.
	three := big.NewInt(3)
	rest := new(big.Int).Mul(prime, prime)
	rest.Sub(rest, big.NewInt(1))
	count := int64(1)
	for new(big.Int).Mod(rest, three).Sign() == 0 {
		rest.Div(rest, three)
		count *= 3
	}
	out := a.pow(new(big.Int).ModInverse(three, rest))
	turn := small(1, 1).pow(rest)
	for range count {
		if out.mul(out).mul(out).is(a) {
			return out, true
		}
		out = out.mul(turn)
	}
	return two{}, false
}

// isGreat tells whether X1 is Great or, where X1 is 0, X0.
func (a two) isGreat() bool {
	if a[1].Sign() == 0 {
		return isGreat(a[0])
	}
	return isGreat(a[1])
}

// at1 is the place of the curve at x whose Y is Great, or not, if there is one.
func at1(x *big.Int, great bool) (api.G1, bool) {
	right := new(big.Int).Exp(x, big.NewInt(3), prime)
	right.Mod(right.Add(right, big.NewInt(4)), prime)
	y := new(big.Int).ModSqrt(right, prime)
	if y == nil {
		return api.G1{}, false
	}
	if isGreat(y) != great {
		y.Sub(prime, y)
	}
	return api.G1{X: numberOf(x), Y: numberOf(y)}, true
}

// at2 is at1 on the curve over pairs.
func at2(x two, great bool) (api.G2, bool) {
	y, is := x.mul(x).mul(x).add(small(4, 4)).root()
	if !is {
		return api.G2{}, false
	}
	if y.isGreat() != great {
		y = y.neg()
	}
	return api.G2{X: x.pair(), Y: y.pair()}, true
}

// written is what the document says that a text of these numbers and marks
// is: one great number of 384 bits for each, the marks on top.
func written(first, inf, great bool, numbers ...*big.Int) []byte {
	n := new(big.Int)
	for _, x := range numbers {
		n.Lsh(n, 384)
		n.Or(n, x)
	}
	top := 384 * len(numbers)
	for i, bit := range []bool{first, inf, great} {
		if bit {
			n.SetBit(n, top-1-i, 1)
		}
	}
	return n.FillBytes(make([]byte, top/8))
}

// text1 is Put1 by the tests' own reckoning, of points On.
func text1(p api.G1) []byte {
	return written(true, p.Inf, isGreat(bigOf(p.Y[:])), bigOf(p.X[:]))
}

// text2 is Put2 by the tests' own reckoning, of points On.
func text2(p api.G2) []byte {
	x := twoOf(p.X)
	return written(true, p.Inf, twoOf(p.Y).isGreat(), x[1], x[0])
}

// opened is what the tests' own reckoning reads in a text: numbers only where
// it is no error and not Inf.
func opened(b []byte, size int) (inf, great bool, numbers []*big.Int, e api.Errno) {
	if len(b) < size {
		return false, false, nil, api.ErrShort
	}
	if len(b) > size {
		return false, false, nil, api.ErrLong
	}
	n, top := new(big.Int).SetBytes(b), 8*size
	if n.Bit(top-1) == 0 {
		return false, false, nil, api.ErrForm
	}
	n.SetBit(n, top-1, 0)
	if n.Bit(top-2) == 1 {
		if n.SetBit(n, top-2, 0).Sign() != 0 {
			return false, false, nil, api.ErrForm
		}
		return true, false, nil, api.OK
	}
	great = n.Bit(top-3) == 1
	n.SetBit(n, top-3, 0)
	for i := top - 384; i >= 0; i -= 384 {
		x := new(big.Int).Rsh(n, uint(i))
		n.Sub(n, new(big.Int).Lsh(x, uint(i)))
		numbers = append(numbers, x)
		if x.Cmp(prime) >= 0 {
			return false, false, nil, api.ErrBig
		}
	}
	return false, great, numbers, api.OK
}

// wanted1 is Take1 by the tests' own reckoning; layer 8 tells what is In.
func wanted1(b []byte) (api.G1, api.Errno) {
	inf, great, numbers, e := opened(b, 48)
	if e != api.OK {
		return api.G1{}, e
	}
	if inf {
		return inf1, api.OK
	}
	p, is := at1(numbers[0], great)
	if !is {
		return api.G1{}, api.ErrCurve
	}
	if !g1.In(p) {
		return api.G1{}, api.ErrGroup
	}
	return p, api.OK
}

// wanted2 is Take2 by the tests' own reckoning; layer 9 tells what is In.
func wanted2(b []byte) (api.G2, api.Errno) {
	inf, great, numbers, e := opened(b, 96)
	if e != api.OK {
		return api.G2{}, e
	}
	if inf {
		return inf2, api.OK
	}
	p, is := at2(two{numbers[1], numbers[0]}, great)
	if !is {
		return api.G2{}, api.ErrCurve
	}
	if !g2.In(p) {
		return api.G2{}, api.ErrGroup
	}
	return p, api.OK
}

// mixer makes the same numbers in each run.
type mixer uint64

func (m *mixer) next() uint64 {
	*m += 0x9e3779b97f4a7c15
	x := uint64(*m)
	x = (x ^ x>>30) * 0xbf58476d1ce4e5b9
	x = (x ^ x>>27) * 0x94d049bb133111eb
	return x ^ x>>31
}

// number is below P.
func (m *mixer) number() *big.Int {
	var a api.Fp
	for i := range a {
		a[i] = m.next()
	}
	n := bigOf(a[:])
	return n.Mod(n, prime)
}

func (m *mixer) bytes(n int) []byte {
	out := make([]byte, n)
	for i := range out {
		out[i] = byte(m.next())
	}
	return out
}

// outside1 is a place of the curve that is not In.
func (m *mixer) outside1() api.G1 {
	for {
		if p, is := at1(m.number(), m.next()%2 == 0); is {
			return p
		}
	}
}

// outside2 is a place of the curve over pairs that is not In.
func (m *mixer) outside2() api.G2 {
	for {
		if p, is := at2(two{m.number(), m.number()}, m.next()%2 == 0); is {
			return p
		}
	}
}

// scalars are the edges and mixed ones.
func scalars(m mixer, n int) []api.Fr {
	var out []api.Fr
	for _, d := range []int64{1, 2, 3, 4, 5, 77, -5, -4, -3, -2, -1} {
		out = append(out, scalarOf(big.NewInt(d)))
	}
	for range n {
		out = append(out, scalarOf(m.number()))
	}
	return out
}

// inside1 are points In, Inf the first.
var inside1 = sync.OnceValue(func() []api.G1 {
	out := []api.G1{inf1}
	for _, k := range scalars(1, 40) {
		out = append(out, g1.Mul(g1.One(), k))
	}
	return out
})

// inside2 are points In, Inf the first.
var inside2 = sync.OnceValue(func() []api.G2 {
	out := []api.G2{inf2}
	for _, k := range scalars(2, 20) {
		out = append(out, g2.Mul(g2.One(), k))
	}
	return out
})

// times1 is a times p, of an a that may be above R: in steps that layer 8 takes.
func times1(p api.G1, a *big.Int) api.G1 {
	out := inf1
	for i := a.BitLen() - 1; i >= 0; i-- {
		out = g1.Add(out, out)
		if a.Bit(i) == 1 {
			out = g1.Add(out, p)
		}
	}
	return out
}

// times2 is times1 on the curve over pairs.
func times2(p api.G2, a *big.Int) api.G2 {
	out := inf2
	for i := a.BitLen() - 1; i >= 0; i-- {
		out = g2.Add(out, out)
		if a.Bit(i) == 1 {
			out = g2.Add(out, p)
		}
	}
	return out
}

// without is n by q as often as q divides it.
func without(n *big.Int, q int64) *big.Int {
	for {
		less, rest := new(big.Int).QuoRem(n, big.NewInt(q), new(big.Int))
		if rest.Sign() != 0 {
			return n
		}
		n = less
	}
}

// outside1 are points On that are not In: of small orders, ones of the group
// with one of them added, and mixed ones.
var outside1 = sync.OnceValue(func() []api.G1 {
	m := mixer(3)
	out := []api.G1{{Y: api.Fp{2}}, {Y: numberOf(nearP(-2))}}
	for _, q := range []int64{3, 11, 10177, 859267, 52437899} {
		p := inf1
		for p.Inf {
			p = times1(m.outside1(), new(big.Int).Mul(order, without(all1(), q)))
		}
		out = append(out, p, g1.Neg(p), g1.Add(p, g1.One()))
	}
	for range 10 {
		out = append(out, m.outside1())
	}
	return out
})

// outside2 are points On that are not In, as outside1.
var outside2 = sync.OnceValue(func() []api.G2 {
	m := mixer(4)
	var out []api.G2
	for _, q := range []int64{13, 23, 2713, 11953, 262069} {
		p := inf2
		for p.Inf {
			p = times2(m.outside2(), new(big.Int).Mul(order, without(all2(), q)))
		}
		out = append(out, p, g2.Neg(p), g2.Add(p, g2.One()))
	}
	for range 5 {
		out = append(out, m.outside2())
	}
	return out
})

// flats are places of the curve over pairs whose Y has an X1 that is 0.
var flats = sync.OnceValue(func() []api.G2 {
	var out []api.G2
	for y := int64(1); len(out) < 6; y++ {
		right := small(y*y-4, -4)
		if x, is := right.thirdRoot(); is {
			p := api.G2{X: x.pair(), Y: small(y, 0).pair()}
			out = append(out, p, g2.Neg(p))
		}
	}
	return out
})

// takes1 holds Take1 against an answer that is known.
func takes1(t *testing.T, b []byte, want api.G1, wantE api.Errno) {
	t.Helper()
	if got, e := Take1(b); got != want || e != wantE {
		t.Errorf("Take1(%x): %v, error %d, not %v, %d", b, got, e, want, wantE)
	}
}

// takes2 holds Take2 against an answer that is known.
func takes2(t *testing.T, b []byte, want api.G2, wantE api.Errno) {
	t.Helper()
	if got, e := Take2(b); got != want || e != wantE {
		t.Errorf("Take2(%x): %v, error %d, not %v, %d", b, got, e, want, wantE)
	}
}

// refused1 fails if Take1 tells another error, or a point beside it.
func refused1(t *testing.T, b []byte, want api.Errno) {
	t.Helper()
	takes1(t, b, api.G1{}, want)
}

// refused2 fails if Take2 tells another error, or a point beside it.
func refused2(t *testing.T, b []byte, want api.Errno) {
	t.Helper()
	takes2(t, b, api.G2{}, want)
}

// asWanted holds both Takes against the tests' own reckoning; where a point is
// read, its text must be b.
func asWanted(t *testing.T, b []byte) {
	t.Helper()
	p, e := wanted1(b)
	takes1(t, b, p, e)
	if e == api.OK && !bytes.Equal(Put1(p), b) {
		t.Errorf("of %x Put1 writes %x", b, Put1(p))
	}
	q, f := wanted2(b)
	takes2(t, b, q, f)
	if f == api.OK && !bytes.Equal(Put2(q), b) {
		t.Errorf("of %x Put2 writes %x", b, Put2(q))
	}
}
