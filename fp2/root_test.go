package fp2

import (
	"testing"

	"intaglio/api"
)

// P5.2: Great.

func TestGreatAtTheEdges(t *testing.T) {
	low, high := middle(-1), middle(1) // the last that is not Great, the first that is
	for _, x := range []struct {
		what string
		a    api.Fp2
		want bool
	}{
		{"0", api.Fp2{}, false},
		{"1", one, false},
		{"-1", api.Fp2{near(-1)}, true},
		{"(P - 1) / 2", api.Fp2{low}, false},
		{"(P + 1) / 2", api.Fp2{high}, true},
		{"u", u, false},
		{"-u", api.Fp2{{}, near(-1)}, true},
		{"(P - 1) / 2 u", api.Fp2{{}, low}, false},
		{"(P + 1) / 2 u", api.Fp2{{}, high}, true},
		{"-1 + u", api.Fp2{near(-1), {1}}, false},
		{"1 - u", api.Fp2{{1}, near(-1)}, true},
		{"-1 - u", api.Fp2{near(-1), near(-1)}, true},
		{"1 + u", api.Fp2{{1}, {1}}, false},
		{"(P + 1) / 2 + (P - 1) / 2 u", api.Fp2{high, low}, false},
		{"(P - 1) / 2 + (P + 1) / 2 u", api.Fp2{low, high}, true},
		{"-1 + 2^320 u", api.Fp2{near(-1), {0, 0, 0, 0, 0, 1}}, false},
	} {
		if Great(x.a) != x.want {
			t.Errorf("Great(%s): %t", x.what, !x.want)
		}
	}
}

func TestGreat(t *testing.T) {
	for _, a := range many(11, 1000) {
		for _, x := range []api.Fp2{a, {a[0]}, {{}, a[1]}} {
			if Great(x) != plainOf(x).great() {
				t.Errorf("Great(%x): %t", x, Great(x))
			}
			if x != (api.Fp2{}) && Great(x) == Great(Neg(x)) {
				t.Errorf("Great(%x) and of its negative: %t", x, Great(x))
			}
		}
	}
}

// P5.2: Sqrt.

func TestSqrtAtTheEdges(t *testing.T) {
	for _, x := range []struct {
		what    string
		a, want api.Fp2
	}{
		{"0", api.Fp2{}, api.Fp2{}},
		{"1", one, one},
		{"-1", api.Fp2{near(-1)}, u},
		{"4", api.Fp2{{4}}, api.Fp2{{2}}},
		{"-4", api.Fp2{near(-4)}, api.Fp2{{}, {2}}},
		{"2 u", api.Fp2{{}, {2}}, api.Fp2{{1}, {1}}},
		{"-2 u", api.Fp2{{}, near(-2)}, api.Fp2{near(-1), {1}}},
		{"3 + 4 u", api.Fp2{{3}, {4}}, api.Fp2{{2}, {1}}},
		{"3 - 4 u", api.Fp2{{3}, near(-4)}, api.Fp2{near(-2), {1}}},
		{"-3 + 4 u", api.Fp2{near(-3), {4}}, api.Fp2{{1}, {2}}},
		{"-3 - 4 u", api.Fp2{near(-3), near(-4)}, api.Fp2{near(-1), {2}}},
	} {
		if got, yes := Sqrt(x.a); got != x.want || !yes {
			t.Errorf("Sqrt(%s): %x, %t, not %x", x.what, got, yes, x.want)
		}
	}
}

func TestSqrtOfWhatIsNoSquare(t *testing.T) {
	for _, a := range []api.Fp2{{{1}, {1}}, {{1}, near(-1)}, {near(-1), {1}}, {near(-1), near(-1)}, {{4}, {4}}} {
		if plainOf(a).isSquare() {
			t.Fatalf("%x is a square", a)
		}
		if got, yes := Sqrt(a); got != (api.Fp2{}) || yes {
			t.Errorf("Sqrt(%x): %x, %t", a, got, yes)
		}
	}
}

func TestSqrt(t *testing.T) {
	squares, others := 0, 0
	for _, a := range many(12, 200) {
		got, yes := Sqrt(a)
		if !plainOf(a).isSquare() {
			others++
			if got != (api.Fp2{}) || yes {
				t.Errorf("Sqrt(%x): %x, %t, where there is none", a, got, yes)
			}
			continue
		}
		squares++
		root := plainOf(got)
		if !yes || !May(got) || root.great() || root.mul(root).pair() != a {
			t.Errorf("Sqrt(%x): %x, %t", a, got, yes)
		}
	}
	if squares < 80 || others < 80 {
		t.Errorf("%d squares, %d others", squares, others)
	}
}

// Of each square the root may have one part 0, or both; where X1 of the square
// is 0 the root is X0 or X1 u, and each of its parts may be a Great one.
func TestSqrtOfASquareIsTheRootThatIsNotGreat(t *testing.T) {
	for _, a := range many(13, 200) {
		for _, x := range []api.Fp2{a, {a[0]}, {{}, a[1]}} {
			want := plainOf(x)
			if want.great() {
				want = want.neg()
			}
			root := plainOf(x)
			if got, yes := Sqrt(root.mul(root).pair()); !yes || got != want.pair() {
				t.Errorf("Sqrt of the square of %x: %x, %t", x, got, yes)
			}
		}
	}
}

// Each number of the base field has a root here: X0, or X1 u.
func TestSqrtWhereTheSecondPartIsNought(t *testing.T) {
	for _, a := range many(14, 200) {
		got, yes := Sqrt(api.Fp2{a[0]})
		root := plainOf(got)
		if !yes || Great(got) || root.mul(root).pair() != (api.Fp2{a[0]}) || got[0] != (api.Fp{}) && got[1] != (api.Fp{}) {
			t.Errorf("Sqrt(%x): %x, %t", a[0], got, yes)
		}
	}
}
