package g2

import (
	"slices"
	"testing"

	"intaglio/api"
	"intaglio/fr"
)

// P9.2: Sum.

// reckoned is the sum as the tests reckon, one after the other.
func reckoned(p []api.G2, k []api.Fr) plain {
	sum := plain{}
	for i := range min(len(p), len(k)) {
		sum = sum.add(plainOf(p[i]).mul(bigOf(k[i][:])))
	}
	return sum
}

// terms are n points and scalars, edges among them.
func terms(seed mixer, n int) ([]api.G2, []api.Fr) {
	points, scalars := points(), scalars()
	var p []api.G2
	var k []api.Fr
	for range n {
		p = append(p, points[seed.next()%uint64(len(points))])
		if seed.next()%2 == 0 {
			k = append(k, scalars[seed.next()%uint64(len(scalars))])
		} else {
			k = append(k, seed.scalar())
		}
	}
	return p, k
}

func TestSum(t *testing.T) {
	for n := range 20 {
		p, k := terms(mixer(n), n)
		is(t, "Sum", Sum(p, k), reckoned(p, k))
	}
}

func TestSumOfTheMost(t *testing.T) {
	p, k := terms(9, 100)
	is(t, "Sum of 100", Sum(p, k), reckoned(p, k))
	is(t, "Sum of 99", Sum(p[1:], k[1:]), reckoned(p[1:], k[1:]))
	same, less := slices.Repeat([]api.G2{One()}, 100), slices.Repeat([]api.Fr{nearR(-1)}, 100)
	if got := Sum(same, less); got != Mul(Neg(One()), fr.Of(100)) {
		t.Errorf("100 times -g2: %v", got)
	}
}

func TestSumOfNothing(t *testing.T) {
	p, k := []api.G2{One(), thirteen}, []api.Fr{{3}, {4}}
	for _, got := range []api.G2{
		Sum(nil, nil), Sum([]api.G2{}, []api.Fr{}), Sum(nil, k), Sum([]api.G2{}, k), Sum(p, nil), Sum(p, []api.Fr{}), Sum(p, []api.Fr{{}, {}}), Sum([]api.G2{inf, inf}, k),
	} {
		if got != inf {
			t.Errorf("Sum of nothing: %v", got)
		}
	}
}

func TestSumOfAsManyAsBothHave(t *testing.T) {
	p, k := terms(10, 8)
	for n := range 9 {
		want := reckoned(p[:n], k[:n])
		is(t, "more points", Sum(p, k[:n]), want)
		is(t, "more scalars", Sum(p[:n], k), want)
		is(t, "both so many", Sum(p[:n], k[:n]), want)
	}
}

func TestSumOfOneIsMul(t *testing.T) {
	m := mixer(11)
	for _, p := range points() {
		for _, k := range []api.Fr{{}, {1}, {6}, nearR(-1), m.scalar()} {
			if got := Sum([]api.G2{p}, []api.Fr{k}); got != Mul(p, k) {
				t.Errorf("Sum of %v times %v alone: %v", k, p, got)
			}
		}
	}
}

// Equal points, negatives and Inf meet within the sum, at every bit.
func TestSumWhereTermsMeet(t *testing.T) {
	m := mixer(12)
	k := m.scalar()
	for _, p := range []api.G2{One(), thirteen, ofOrder(23, 1), m.outside()} {
		twice := Add(p, p)
		for _, x := range []struct {
			what string
			p    []api.G2
			k    []api.Fr
			want api.G2
		}{
			{"twice the same", []api.G2{p, p}, []api.Fr{k, k}, Mul(twice, k)},
			{"three times the same", []api.G2{p, p, p}, []api.Fr{k, k, k}, Mul(Add(twice, p), k)},
			{"both signs", []api.G2{p, Neg(p)}, []api.Fr{k, k}, inf},
			{"both signs, and more", []api.G2{p, Neg(p), p}, []api.Fr{k, k, k}, Mul(p, k)},
			{"a sum's negative", []api.G2{p, p, Neg(twice)}, []api.Fr{k, k, k}, inf},
			{"a doubling taken away", []api.G2{p, twice}, []api.Fr{{2}, nearR(-1)}, Add(twice, Mul(twice, nearR(-1)))},
			{"2 and then the same twice", []api.G2{p, twice}, []api.Fr{{2}, {1}}, Mul(p, api.Fr{4})},
			{"2 and then the negative twice", []api.G2{p, Neg(twice)}, []api.Fr{{2}, {1}}, inf},
			{"Inf between", []api.G2{inf, p, inf}, []api.Fr{k, k, k}, Mul(p, k)},
			{"0 between", []api.G2{twice, p, twice}, []api.Fr{{}, k, {}}, Mul(p, k)},
			{"1 each", []api.G2{p, twice, One()}, []api.Fr{{1}, {1}, {1}}, Add(Add(p, twice), One())},
		} {
			if got := Sum(x.p, x.k); got != x.want || !On(got) {
				t.Errorf("%s, of %v: %v, not %v", x.what, p, got, x.want)
			}
		}
	}
}

func TestSumMindsNoOrder(t *testing.T) {
	p, k := terms(13, 12)
	want := Sum(p, k)
	slices.Reverse(p)
	slices.Reverse(k)
	if got := Sum(p, k); got != want {
		t.Errorf("turned round: %v, not %v", got, want)
	}
	if got := Add(Sum(p[:5], k[:5]), Sum(p[5:], k[5:])); got != want {
		t.Errorf("in two parts: %v, not %v", got, want)
	}
}
