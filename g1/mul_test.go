package g1

import (
	"math/big"
	"testing"

	"intaglio/api"
	"intaglio/fp"
	"intaglio/fr"
)

// P8.1: Mul.

func TestMul(t *testing.T) {
	m := mixer(4)
	for _, p := range points() {
		for _, k := range []api.Fr{{}, {1}, {2}, {3}, {11}, nearR(-1), m.scalar(), m.scalar()} {
			is(t, "Mul", Mul(p, k), plainOf(p).mul(bigOf(k[:])))
		}
	}
	for _, p := range []api.G1{inf, One(), three, m.inside(), m.outside()} {
		for _, k := range scalars() {
			is(t, "Mul", Mul(p, k), plainOf(p).mul(bigOf(k[:])))
		}
	}
}

func TestMulByEachPowerOfTwo(t *testing.T) {
	for _, p := range []api.G1{One(), places(4)[3]} {
		want := plainOf(p)
		for i := range 255 {
			k := scalarOf(new(big.Int).Lsh(big.NewInt(1), uint(i)))
			is(t, "Mul", Mul(p, k), want)
			want = want.add(want)
		}
	}
}

func TestMulAtTheEdges(t *testing.T) {
	g := One()
	half := scalarOf(new(big.Int).Rsh(order(), 1))
	other := fr.Add(half, fr.Of(1))
	for _, x := range []struct {
		what      string
		got, want api.G1
	}{
		{"g1 by 0", Mul(g, api.Fr{}), inf},
		{"g1 by 1", Mul(g, fr.Of(1)), g},
		{"g1 by 2", Mul(g, fr.Of(2)), Add(g, g)},
		{"g1 by -1", Mul(g, nearR(-1)), Neg(g)},
		{"g1 by -2", Mul(g, nearR(-2)), Neg(Add(g, g))},
		{"Inf by 0", Mul(inf, api.Fr{}), inf},
		{"Inf by 1", Mul(inf, fr.Of(1)), inf},
		{"Inf by -1", Mul(inf, nearR(-1)), inf},
		{"both halves of R g1", Add(Mul(g, half), Mul(g, other)), inf},
		{"half of twice", Mul(Mul(g, other), fr.Of(2)), g},
		{"(0, 2) by 0", Mul(three, api.Fr{}), inf},
		{"(0, 2) by 1", Mul(three, fr.Of(1)), three},
		{"(0, 2) by 2", Mul(three, fr.Of(2)), Neg(three)},
		{"(0, 2) by 3", Mul(three, fr.Of(3)), inf},
		{"(0, 2) by 4", Mul(three, fr.Of(4)), three},
	} {
		if x.got != x.want {
			t.Errorf("%s: %v, not %v", x.what, x.got, x.want)
		}
	}
}

// A point of a small order goes round: Inf, the same point and the negative
// come about between two bits. Scalars are the numbers that they are, so that
// of these points they are not to be brought below the order ahead.
func TestMulOfSmallOrders(t *testing.T) {
	m := mixer(5)
	for _, x := range []struct {
		p api.G1
		q int64
	}{{three, 3}, {ofOrder(11, 1), 11}, {ofOrder(11, 2), 11}} {
		var round []api.G1
		for k := range x.q {
			round = append(round, plainOf(x.p).mul(big.NewInt(k)).point())
		}
		at := func(k api.Fr) api.G1 {
			return round[new(big.Int).Mod(bigOf(k[:]), big.NewInt(x.q)).Int64()]
		}
		for k := range uint64(200) {
			if got := Mul(x.p, fr.Of(k)); got != at(fr.Of(k)) {
				t.Errorf("%d times %v: %v", k, x.p, got)
			}
		}
		for range 50 {
			k := m.scalar()
			if got := Mul(x.p, k); got != at(k) {
				t.Errorf("%v times %v: %v", k, x.p, got)
			}
		}
		for d := int64(-20); d < 0; d++ {
			if got := Mul(x.p, nearR(d)); got != at(nearR(d)) {
				t.Errorf("R - %d times %v: %v", -d, x.p, got)
			}
		}
	}
}

func TestMulIsAddAgainAndAgain(t *testing.T) {
	for _, p := range points() {
		sum := inf
		for k := range uint64(18) {
			if got := Mul(p, fr.Of(k)); got != sum {
				t.Errorf("%d times %v: %v, not %v", k, p, got, sum)
			}
			sum = Add(sum, p)
		}
	}
}

// In the group scalars add up and multiply modulo R.
func TestScalarsAddUpAndMultiply(t *testing.T) {
	m := mixer(6)
	for range 40 {
		p, q, j, k := m.inside(), m.inside(), m.scalar(), m.scalar()
		if Add(Mul(p, j), Mul(p, k)) != Mul(p, fr.Add(j, k)) {
			t.Errorf("%v and %v times %v", j, k, p)
		}
		if Mul(Mul(p, j), k) != Mul(p, fr.Mul(j, k)) {
			t.Errorf("%v times %v times %v", k, j, p)
		}
		if Mul(Add(p, q), k) != Add(Mul(p, k), Mul(q, k)) {
			t.Errorf("%v times %v and %v", k, p, q)
		}
		if Mul(p, fr.Neg(k)) != Neg(Mul(p, k)) || Mul(Neg(p), k) != Neg(Mul(p, k)) {
			t.Errorf("-%v times %v", k, p)
		}
		if part, e := fr.Inv(k); e == api.OK && Mul(Mul(p, k), part) != p {
			t.Errorf("%v times %v and back", k, p)
		}
	}
}

// P8.1: In.

func TestInAsTheTestsReckon(t *testing.T) {
	yes, no := 0, 0
	for _, p := range points() {
		want := plainOf(p).mul(order()).x == nil
		if want {
			yes++
		} else {
			no++
		}
		if got := In(p); got != want {
			t.Errorf("In(%v): %t", p, got)
		}
	}
	if yes < 10 || no < 10 {
		t.Errorf("%d In, %d not", yes, no)
	}
}

func TestInOfTheGroup(t *testing.T) {
	if !In(One()) || !In(Neg(One())) || !In(inf) {
		t.Error("In of g1, -g1, Inf")
	}
	for _, k := range scalars() {
		if p := Mul(One(), k); !In(p) {
			t.Errorf("In(%v), %v times g1: no", p, k)
		}
	}
}

func TestInOfPointsThatAreNotOfTheGroup(t *testing.T) {
	m := mixer(7)
	for _, q := range smallOrders() {
		for seed := 1; seed <= 3; seed++ {
			p := ofOrder(q, seed)
			if In(p) || In(Neg(p)) {
				t.Errorf("In of a point of the order %d: %v", q, p)
			}
			for _, inside := range []api.G1{One(), m.inside()} {
				if In(Add(inside, p)) {
					t.Errorf("In of %v and a point of the order %d", inside, q)
				}
			}
			if !In(Mul(Add(One(), p), fr.Of(uint64(q)))) {
				t.Errorf("%d times a sum with a point of that order is not In", q)
			}
		}
	}
	for _, p := range places(10) {
		if In(p) {
			t.Errorf("In(%v): yes", p)
		}
	}
}

// What is not On is of no group, also where its R-th multiple would come to
// Inf: (4 X, 8 Y) is of a curve that goes as ours does, with 256 for the 4.
func TestInOfWhatIsNotOn(t *testing.T) {
	g := One()
	apart := api.G1{X: fp.Mul(g.X, fp.Of(4)), Y: fp.Mul(g.Y, fp.Of(8))}
	past := g
	past.X = numberOf(new(big.Int).Add(bigOf(g.X[:]), prime()))
	for _, p := range append(odd(), apart, past) {
		if In(p) {
			t.Errorf("In(%v): yes", p)
		}
	}
}

// What follows: those In it have the order R, or 1.
func TestThoseInHaveTheOrderR(t *testing.T) {
	m := mixer(8)
	for range 20 {
		p := m.inside()
		if Add(Mul(p, nearR(-1)), p) != inf {
			t.Errorf("R times %v", p)
		}
		for _, k := range []api.Fr{{1}, {3}, {11}, {859267}, nearR(-1), m.scalar()} {
			if k != (api.Fr{}) && p != inf && Mul(p, k) == inf {
				t.Errorf("%v times %v: Inf", k, p)
			}
		}
	}
}

func TestProductsAreOn(t *testing.T) {
	for _, p := range points()[:12] {
		for _, k := range scalars() {
			if got := Mul(p, k); !On(got) {
				t.Errorf("%v times %v: %v", k, p, got)
			}
		}
	}
}
