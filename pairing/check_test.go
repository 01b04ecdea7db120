package pairing

import (
	"slices"
	"testing"

	"intaglio/api"
	"intaglio/g1"
	"intaglio/g2"
)

// P11.2: Check.

func TestCheckSmallMultiples(t *testing.T) {
	t.Parallel()
	for what, x := range map[string]struct {
		l    []api.Pair
		want bool
	}{
		"nil":                {nil, true},
		"none":               {[]api.Pair{}, true},
		"the example":        {[]api.Pair{{P: g1.One(), Q: g2.One()}, {P: g1.Neg(g1.One()), Q: g2.One()}}, true},
		"the other side":     {[]api.Pair{pairOf(1, 1), pairOf(1, -1)}, true},
		"both sides":         {[]api.Pair{pairOf(1, 1), pairOf(-1, -1)}, false},
		"one alone":          {[]api.Pair{pairOf(1, 1)}, false},
		"one twice":          {[]api.Pair{pairOf(1, 1), pairOf(1, 1)}, false},
		"two, one, one":      {[]api.Pair{pairOf(-2, 1), pairOf(1, 1), pairOf(1, 1)}, true},
		"2 3 - 6 1":          {[]api.Pair{pairOf(2, 3), pairOf(-6, 1)}, true},
		"2 3 - 1 6":          {[]api.Pair{pairOf(2, 3), pairOf(1, -6)}, true},
		"2 3 - 5 1":          {[]api.Pair{pairOf(2, 3), pairOf(-5, 1)}, false},
		"2 3 + 5 - 11":       {[]api.Pair{pairOf(2, 3), pairOf(5, 1), pairOf(-1, 11)}, true},
		"2 3 + 5 - 10":       {[]api.Pair{pairOf(2, 3), pairOf(5, 1), pairOf(-1, 10)}, false},
		"2 3 + 5 - 12":       {[]api.Pair{pairOf(2, 3), pairOf(5, 1), pairOf(-1, 12)}, false},
		"Inf of the first":   {[]api.Pair{pairOf(0, 7)}, true},
		"Inf of the second":  {[]api.Pair{pairOf(7, 0)}, true},
		"Inf of both":        {[]api.Pair{pairOf(0, 0)}, true},
		"Inf and one":        {[]api.Pair{pairOf(0, 7), pairOf(1, 1), pairOf(7, 0)}, false},
		"Inf and what is 0":  {[]api.Pair{pairOf(4, 1), pairOf(0, 7), pairOf(7, 0), pairOf(-2, 2)}, true},
		"sums, not products": {[]api.Pair{pairOf(3, 1), pairOf(-3, 2), pairOf(0, -3)}, false},
	} {
		checks(t, what, x.l, x.want)
	}
}

func TestCheckManyPairs(t *testing.T) {
	t.Parallel()
	for _, n := range []int{2, 3, 5, 19, 20} {
		l := pairs(mixer(n), n)
		checks(t, "whose sum is 0", l, true)
		slices.Reverse(l)
		checks(t, "the other way round", l, true)
		for _, i := range []int{0, n / 2, n - 1} {
			more := slices.Clone(l)
			more[i].P = g1.Add(more[i].P, g1.One())
			checks(t, "g1 more", more, false)
			more = slices.Clone(l)
			more[i].Q = g2.Neg(more[i].Q)
			checks(t, "one negative", more, false)
		}
		checks(t, "one less", l[1:], false)
	}
}

func TestCheckIsOfTheProduct(t *testing.T) {
	t.Parallel()
	for n := range 4 {
		l := pairs(mixer(30+n), n+2)
		for _, x := range [][]api.Pair{l, l[1:], append(slices.Clone(l), pairOf(int64(n), 1)), append(slices.Clone(l), pairOf(1, 1), pairOf(-1, 1))} {
			checks(t, "as the product", x, productOf(x) == one)
		}
	}
}

func TestCheckSomePointNotIn(t *testing.T) {
	t.Parallel()
	for _, p := range outside1() {
		for _, q := range []api.G2{inf2, g2.One(), {}} {
			checks(t, "the first not In", []api.Pair{{P: p, Q: q}}, false)
		}
	}
	for _, q := range outside2() {
		for _, p := range []api.G1{inf1, g1.One(), {}} {
			checks(t, "the second not In", []api.Pair{{P: p, Q: q}}, false)
		}
	}
}

func TestCheckSomePointNotInBesideOthers(t *testing.T) {
	t.Parallel()
	l := pairs(40, 4)
	for i := range len(l) + 1 {
		for _, x := range []api.Pair{
			{P: api.G1{Y: api.Fp{2}}, Q: inf2}, {P: inf1, Q: outside2()[0]}, {P: api.G1{X: api.Fp{1}, Inf: true}, Q: g2.One()},
			{P: g1.One(), Q: api.G2{Y: api.Fp2{{1}}, Inf: true}}, {}, {P: outside1()[2], Q: g2.One()}, {P: g1.One(), Q: outside2()[1]},
		} {
			checks(t, "one not In", slices.Insert(slices.Clone(l), i, x), false)
		}
	}
	checks(t, "all In", l, true)
}

// What is not In of one pair does not take away what is not In of another.
func TestCheckTwoPointsNotIn(t *testing.T) {
	t.Parallel()
	p, q := outside1()[2], outside2()[0]
	checks(t, "and its negative", []api.Pair{{P: p, Q: g2.One()}, {P: g1.Neg(p), Q: g2.One()}}, false)
	checks(t, "of pairs, and its negative", []api.Pair{{P: g1.One(), Q: q}, {P: g1.One(), Q: g2.Neg(q)}}, false)
	checks(t, "a sum with one of the group", []api.Pair{{P: g1.Add(p, g1.One()), Q: g2.One()}, pairOf(-1, 1)}, false)
}

func TestCheckTwentyPairsWithOneNotIn(t *testing.T) {
	t.Parallel()
	l := pairs(41, 19)
	for _, i := range []int{0, 10, 19} {
		checks(t, "Inf besides", slices.Insert(slices.Clone(l), i, api.Pair{P: inf1, Q: inf2}), true)
		checks(t, "the first not In", slices.Insert(slices.Clone(l), i, api.Pair{P: outside1()[0], Q: inf2}), false)
		checks(t, "the second not In", slices.Insert(slices.Clone(l), i, api.Pair{P: inf1, Q: outside2()[0]}), false)
	}
}
