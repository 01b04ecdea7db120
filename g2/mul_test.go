package g2

import (
	"math/big"
	"testing"

	"intaglio/api"
	"intaglio/fp2"
	"intaglio/fr"
)

// P9.1: Mul.

func TestMul(t *testing.T) {
	m := mixer(4)
	for _, p := range points() {
		for _, k := range []api.Fr{{}, {1}, {2}, {3}, {13}, nearR(-1), m.scalar()} {
			is(t, "Mul", Mul(p, k), plainOf(p).mul(bigOf(k[:])))
		}
	}
	for _, p := range []api.G2{inf, One(), thirteen, m.inside(), m.outside()} {
		for _, k := range scalars() {
			is(t, "Mul", Mul(p, k), plainOf(p).mul(bigOf(k[:])))
		}
	}
}

func TestMulByEachPowerOfTwo(t *testing.T) {
	for _, p := range []api.G2{One(), places(3)[2]} {
		want := plainOf(p)
		for i := range 255 {
			k := scalarOf(new(big.Int).Lsh(big.NewInt(1), uint(i)))
			is(t, "Mul", Mul(p, k), want)
			want = want.add(want)
		}
	}
}

func TestMulAtTheEdges(t *testing.T) {
	g := One()
	half := scalarOf(new(big.Int).Rsh(order(), 1))
	other := fr.Add(half, fr.Of(1))
	for _, x := range []struct {
		what      string
		got, want api.G2
	}{
		{"g2 by 0", Mul(g, api.Fr{}), inf},
		{"g2 by 1", Mul(g, fr.Of(1)), g},
		{"g2 by 2", Mul(g, fr.Of(2)), Add(g, g)},
		{"g2 by -1", Mul(g, nearR(-1)), Neg(g)},
		{"g2 by -2", Mul(g, nearR(-2)), Neg(Add(g, g))},
		{"Inf by 0", Mul(inf, api.Fr{}), inf},
		{"Inf by 1", Mul(inf, fr.Of(1)), inf},
		{"Inf by -1", Mul(inf, nearR(-1)), inf},
		{"both halves of R g2", Add(Mul(g, half), Mul(g, other)), inf},
		{"half of twice", Mul(Mul(g, other), fr.Of(2)), g},
		{"13 by 13", Mul(thirteen, fr.Of(13)), inf},
		{"13 by 12", Mul(thirteen, fr.Of(12)), Neg(thirteen)},
		{"13 by 14", Mul(thirteen, fr.Of(14)), thirteen},
	} {
		if x.got != x.want {
			t.Errorf("%s: %v, not %v", x.what, x.got, x.want)
		}
	}
}

// A point of a small order goes round: Inf, the same point and the negative
// come about between two bits. Scalars are the numbers that they are, so that
// of these points they are not to be brought below the order ahead.
func TestMulOfSmallOrders(t *testing.T) {
	m := mixer(5)
	for _, x := range []struct {
		p api.G2
		q int64
	}{{thirteen, 13}, {ofOrder(23, 1), 23}} {
		var round []api.G2
		for k := range x.q {
			round = append(round, plainOf(x.p).mul(big.NewInt(k)).point())
		}
		at := func(k api.Fr) api.G2 {
			return round[new(big.Int).Mod(bigOf(k[:]), big.NewInt(x.q)).Int64()]
		}
		for k := range uint64(200) {
			if got := Mul(x.p, fr.Of(k)); got != at(fr.Of(k)) {
				t.Errorf("%d times %v: %v", k, x.p, got)
			}
		}
		for range 50 {
			k := m.scalar()
			if got := Mul(x.p, k); got != at(k) {
				t.Errorf("%v times %v: %v", k, x.p, got)
			}
		}
		for d := int64(-20); d < 0; d++ {
			if got := Mul(x.p, nearR(d)); got != at(nearR(d)) {
				t.Errorf("R - %d times %v: %v", -d, x.p, got)
			}
		}
	}
}

func TestMulIsAddAgainAndAgain(t *testing.T) {
	for _, p := range points() {
		sum := inf
		for k := range uint64(18) {
			if got := Mul(p, fr.Of(k)); got != sum {
				t.Errorf("%d times %v: %v, not %v", k, p, got, sum)
			}
			sum = Add(sum, p)
		}
	}
}

// In the group scalars add up and multiply modulo R.
func TestScalarsAddUpAndMultiply(t *testing.T) {
	m := mixer(6)
	for range 10 {
		p, q, j, k := m.inside(), m.inside(), m.scalar(), m.scalar()
		if Add(Mul(p, j), Mul(p, k)) != Mul(p, fr.Add(j, k)) {
			t.Errorf("%v and %v times %v", j, k, p)
		}
		if Mul(Mul(p, j), k) != Mul(p, fr.Mul(j, k)) {
			t.Errorf("%v times %v times %v", k, j, p)
		}
		if Mul(Add(p, q), k) != Add(Mul(p, k), Mul(q, k)) {
			t.Errorf("%v times %v and %v", k, p, q)
		}
		if Mul(p, fr.Neg(k)) != Neg(Mul(p, k)) || Mul(Neg(p), k) != Neg(Mul(p, k)) {
			t.Errorf("-%v times %v", k, p)
		}
		if part, e := fr.Inv(k); e == api.OK && Mul(Mul(p, k), part) != p {
			t.Errorf("%v times %v and back", k, p)
		}
	}
}

// P9.1: In.

func TestInAsTheTestsReckon(t *testing.T) {
	yes, no := 0, 0
	for _, p := range points() {
		want := !plainOf(p).mul(order()).has
		if want {
			yes++
		} else {
			no++
		}
		if got := In(p); got != want {
			t.Errorf("In(%v): %t", p, got)
		}
	}
	if yes < 9 || no < 10 {
		t.Errorf("%d In, %d not", yes, no)
	}
}

func TestInOfTheGroup(t *testing.T) {
	if !In(One()) || !In(Neg(One())) || !In(inf) {
		t.Error("In of g2, -g2, Inf")
	}
	for _, k := range scalars() {
		if p := Mul(One(), k); !In(p) {
			t.Errorf("In(%v), %v times g2: no", p, k)
		}
	}
}

func TestInOfPointsThatAreNotOfTheGroup(t *testing.T) {
	m := mixer(7)
	for _, q := range smallOrders() {
		for seed := 1; seed <= 3; seed++ {
			p := ofOrder(q, seed)
			if In(p) || In(Neg(p)) {
				t.Errorf("In of a point of the order %d: %v", q, p)
			}
			for _, inside := range []api.G2{One(), m.inside()} {
				if In(Add(inside, p)) {
					t.Errorf("In of %v and a point of the order %d", inside, q)
				}
			}
			if !In(Mul(Add(One(), p), fr.Of(uint64(q)))) {
				t.Errorf("%d times a sum with a point of that order is not In", q)
			}
		}
	}
	for _, p := range places(4) {
		if In(p) {
			t.Errorf("In(%v): yes", p)
		}
	}
}

// What is not On is of no group, also where its R-th multiple would come to
// Inf: (4 X, 8 Y) is of a curve that goes as ours does, with 256 (1 + u)
// for 4 (1 + u).
func TestInOfWhatIsNotOn(t *testing.T) {
	g := One()
	apart := api.G2{X: fp2.Mul(g.X, api.Fp2{{4}}), Y: fp2.Mul(g.Y, api.Fp2{{8}})}
	for _, p := range append(odd(), apart, api.G2{X: past(g.X, 0, 1), Y: g.Y}, api.G2{X: g.X, Y: past(g.Y, 1, 1)}) {
		if In(p) {
			t.Errorf("In(%v): yes", p)
		}
	}
}

// What follows: those In it have the order R, or 1.
func TestThoseInHaveTheOrderR(t *testing.T) {
	m := mixer(8)
	for range 10 {
		p := m.inside()
		if Add(Mul(p, nearR(-1)), p) != inf {
			t.Errorf("R times %v", p)
		}
		for _, k := range []api.Fr{{1}, {3}, {13}, {262069}, nearR(-1), m.scalar()} {
			if k != (api.Fr{}) && p != inf && Mul(p, k) == inf {
				t.Errorf("%v times %v: Inf", k, p)
			}
		}
	}
}

func TestProductsAreOn(t *testing.T) {
	for _, p := range points()[:12] {
		for _, k := range scalars() {
			if got := Mul(p, k); !On(got) {
				t.Errorf("%v times %v: %v", k, p, got)
			}
		}
	}
}
