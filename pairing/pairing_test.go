package pairing

import (
	"testing"

	"intaglio/api"
	"intaglio/fp12"
	"intaglio/g1"
	"intaglio/g2"
)

// P11.1: Of.

func TestOfMultiples(t *testing.T) {
	t.Parallel()
	e := Of(g1.One(), g2.One())
	list := scalars(1, 2)
	for _, a := range list {
		for _, b := range list {
			p, q := g1.Mul(g1.One(), a), g2.Mul(g2.One(), b)
			if got := Of(p, q); got != fp12.Pow(e, by(a, b)) {
				t.Errorf("Of %x g1, %x g2: %x", a, b, got)
			}
		}
	}
}

func TestOfMultiplesOfOtherPoints(t *testing.T) {
	t.Parallel()
	m := mixer(2)
	for range 6 {
		p, q, a, b := m.inside1(), m.inside2(), m.scalar(), m.scalar()
		e := Of(p, q)
		if got := Of(g1.Mul(p, a), g2.Mul(q, b)); got != fp12.Pow(e, by(a, b)) {
			t.Errorf("Of %x times %v, %x times %v: %x", a, p, b, q, got)
		}
		if Of(g1.Mul(p, a), q) != Of(p, g2.Mul(q, a)) {
			t.Errorf("Of %v, %v: %x from one side to the other", p, q, a)
		}
	}
}

func TestOfSums(t *testing.T) {
	t.Parallel()
	m := mixer(3)
	for range 6 {
		p, o, q, r := m.inside1(), m.inside1(), m.inside2(), m.inside2()
		if Of(g1.Add(p, o), q) != fp12.Mul(Of(p, q), Of(o, q)) {
			t.Errorf("Of %v + %v, %v", p, o, q)
		}
		if Of(p, g2.Add(q, r)) != fp12.Mul(Of(p, q), Of(p, r)) {
			t.Errorf("Of %v, %v + %v", p, q, r)
		}
	}
}

func TestOfNegatives(t *testing.T) {
	t.Parallel()
	m := mixer(4)
	for range 6 {
		p, q := m.inside1(), m.inside2()
		e, back := Of(p, q), Of(g1.Neg(p), q)
		if fp12.Mul(e, back) != one || Of(p, g2.Neg(q)) != back || Of(g1.Neg(p), g2.Neg(q)) != e {
			t.Errorf("Of %v, %v and their negatives", p, q)
		}
		if fp12.Conj(e) != back {
			t.Errorf("Of %v, %v: the inverse is not the Conj", p, q)
		}
	}
}

func TestOfIsARootOfOne(t *testing.T) {
	t.Parallel()
	m := mixer(5)
	list := []api.Pair{pairOf(1, 1), pairOf(-1, 1), pairOf(1, -1), pairOf(2, 1), pairOf(-2, -2)}
	for range 5 {
		list = append(list, api.Pair{P: m.inside1(), Q: m.inside2()})
	}
	for _, x := range list {
		e := Of(x.P, x.Q)
		if e == one || e == (api.Fp12{}) || !fp12.May(e) {
			t.Errorf("Of %v, %v: %x", x.P, x.Q, e)
		}
		if fp12.Pow(e, limbsOf(order)) != one || plainOf(e).pow(order).six() != one {
			t.Errorf("Of %v, %v: %x, whose R-th power is not 1", x.P, x.Q, e)
		}
	}
}

func TestOfInf(t *testing.T) {
	t.Parallel()
	m := mixer(6)
	for _, x := range []api.Pair{
		{P: inf1, Q: inf2}, {P: inf1, Q: g2.One()}, {P: g1.One(), Q: inf2}, {P: inf1, Q: m.inside2()}, {P: m.inside1(), Q: inf2},
	} {
		if got := Of(x.P, x.Q); got != one {
			t.Errorf("Of %v, %v: %x", x.P, x.Q, got)
		}
	}
}

func TestOfOtherPoints(t *testing.T) {
	t.Parallel()
	m := mixer(7)
	for _, p := range outside1() {
		for _, q := range []api.G2{inf2, g2.One(), m.inside2(), outside2()[0], {}} {
			if got := Of(p, q); got != one {
				t.Errorf("Of %v, %v: %x", p, q, got)
			}
		}
	}
	for _, q := range outside2() {
		for _, p := range []api.G1{inf1, g1.One(), m.inside1(), outside1()[0], {}} {
			if got := Of(p, q); got != one {
				t.Errorf("Of %v, %v: %x", p, q, got)
			}
		}
	}
}

// The way that the document names leaves one pairing alone: which one is the
// program's business, but it is always that one.

func TestOfByTheTestsOwnReckoning(t *testing.T) {
	t.Parallel()
	m := mixer(8)
	for _, x := range []api.Pair{pairOf(1, 1), pairOf(-3, 5), {P: m.inside1(), Q: m.inside2()}} {
		if e := Of(x.P, x.Q); !reckoned(e, x.P, x.Q) {
			t.Errorf("Of %v, %v: %x", x.P, x.Q, e)
		}
	}
}
