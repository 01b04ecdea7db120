package pairing

import (
	"math/big"
	"testing"

	"intaglio/api"
	"intaglio/fp12"
	"intaglio/g1"
	"intaglio/g2"
)

// The way: places of y y = x x x + 4 over sixes, lines, and Miller's loop.

func TestTheLoopsNumber(t *testing.T) {
	if new(big.Int).SetUint64(loop).Cmp(steps) != 0 {
		t.Errorf("%x", loop)
	}
	x := new(big.Int).Neg(steps)
	xx := new(big.Int).Mul(x, x)
	r := new(big.Int).Mul(xx, xx)
	if r.Sub(r, xx).Add(r, big.NewInt(1)).Cmp(order) != 0 {
		t.Error("R is not x^4 - x^2 + 1")
	}
	if d := new(big.Int).Sub(prime, x); d.Mod(d, order).Sign() != 0 {
		t.Error("R does not divide P - x")
	}
}

// isOnCurve asks by the tests' own reckoning.
func isOnCurve(a place) bool {
	x, y := plainOf(a.x), plainOf(a.y)
	return y.mul(y).sub(x.mul(x).mul(x)).sub(at(0, big.NewInt(4))).six() == api.Fp12{}
}

func TestPlacesAreOnTheOneCurve(t *testing.T) {
	t.Parallel()
	m := mixer(50)
	for range 20 {
		p, q := m.outside1(), m.outside2()
		a, b := placeOf1(p), placeOf2(q)
		if !isOnCurve(a) || !isOnCurve(b) {
			t.Errorf("%v, %v: %x, %x", p, q, a, b)
		}
		if b.x != twoOf(q.X).plain().mul(backs(2)).six() || b.y != twoOf(q.Y).plain().mul(backs(3)).six() {
			t.Errorf("%v: %x", q, b)
		}
	}
}

func TestSumsOfPlaces(t *testing.T) {
	t.Parallel()
	m := mixer(51)
	for range 10 {
		p, o, q, r := m.inside1(), m.inside1(), m.inside2(), m.inside2()
		for _, x := range []struct{ a, b, want place }{
			{placeOf1(p), placeOf1(o), placeOf1(g1.Add(p, o))}, {placeOf1(p), placeOf1(p), placeOf1(g1.Add(p, p))},
			{placeOf2(q), placeOf2(r), placeOf2(g2.Add(q, r))}, {placeOf2(q), placeOf2(q), placeOf2(g2.Add(q, q))},
		} {
			if got := sum(x.a, x.b, slope(x.a, x.b)); got != x.want {
				t.Errorf("%x and %x: %x", x.a, x.b, got)
			}
		}
		if got := sum(placeOf1(p), placeOf2(q), slope(placeOf1(p), placeOf2(q))); !isOnCurve(got) {
			t.Errorf("%v and %v: %x", p, q, got)
		}
	}
}

func TestLinesGoThroughTheirPlaces(t *testing.T) {
	t.Parallel()
	m := mixer(52)
	for range 10 {
		q, r := m.inside2(), m.inside2()
		a, b := placeOf2(q), placeOf2(r)
		s := slope(a, b)
		for _, x := range []place{a, b, placeOf2(g2.Neg(g2.Add(q, r)))} {
			if got := line(a, s, x); got != (api.Fp12{}) {
				t.Errorf("%x at %x: %x", a, x, got)
			}
		}
		s = slope(a, a)
		if got := line(a, s, placeOf2(g2.Neg(g2.Add(q, q)))); got != (api.Fp12{}) {
			t.Errorf("the line that touches in %x: %x", a, got)
		}
		p := placeOf1(m.inside1())
		want := fp12.Sub(fp12.Sub(p.y, a.y), fp12.Mul(s, fp12.Sub(p.x, a.x)))
		if got := line(a, s, p); got != want || got == (api.Fp12{}) {
			t.Errorf("%x at %x: %x", a, p, got)
		}
	}
}

// The loop tells the tests' own product of lines, but for those that go
// straight up.
func TestMillersLoop(t *testing.T) {
	t.Parallel()
	m := mixer(53)
	for range 3 {
		p, q := m.inside1(), m.inside2()
		v, start := viewOf(p), spot{twoOf(q.X), twoOf(q.Y)}
		want, now := plainOf(one), start
		for i := steps.BitLen() - 2; i >= 0; i-- {
			want = want.mul(want).mul(v.line(now, now))
			now = now.add(now)
			if steps.Bit(i) == 1 {
				want = want.mul(v.line(now, start))
				now = now.add(start)
			}
		}
		if got := miller(placeOf1(p), placeOf2(q)); got != want.six() {
			t.Errorf("%v, %v: %x, not %x", p, q, got, want.six())
		}
	}
}
