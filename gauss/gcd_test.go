package gauss

import "testing"

// P4.1: Gcd.

func TestGcdAtTheEdges(t *testing.T) {
	for _, x := range []struct{ a, b, want complex128 }{
		{0, 0, 0},
		{0, 3, 3}, {0, -3, 3}, {0, 3i, 3}, {0, -3i, 3},
		{2 + 1i, 0, 2 + 1i}, {-1 + 2i, 0, 2 + 1i}, {-2 - 1i, 0, 2 + 1i}, {1 - 2i, 0, 2 + 1i},
		{0, 1 + 2i, 1 + 2i}, {0, 2 - 1i, 1 + 2i},
		{1, 0, 1}, {0, -1i, 1}, {1i, -1, 1},
		{6, 4, 2}, {-6, 4i, 2}, {5, 3 + 4i, 2 + 1i}, {5, 3 - 4i, 1 + 2i}, {3 + 4i, 3 - 4i, 1},
		{1 + 1i, 3, 1}, {2, 1 - 1i, 1 + 1i}, {7 + 24i, 25, 4 + 3i},
		{1 << 20, 1 << 20, 1 << 20}, {1 << 20, -1 << 20, 1 << 20},
		{complex(-1<<20, -1<<20), 0, complex(1<<20, 1<<20)},
		{complex(1<<20, -1<<20), complex(1<<20, 1<<20), complex(1<<20, 1<<20)},
		{complex(0, -1<<20), complex(1<<20, 1<<20), 1 << 20},
		{1 << 20, 1<<20 - 1, 1},
		{1 << 20, complex(1<<20, 1), 1},
	} {
		if got := Gcd(x.a, x.b); !same(got, x.want) {
			t.Errorf("Gcd(%v, %v): %v, not %v", x.a, x.b, got, x.want)
		}
	}
}

// greatest goes through all numbers up to the parts' end that stand as told.
func greatest(a, b pair, end int) pair {
	var best pair
	for x := 1; x <= end; x++ {
		for y := range end + 1 {
			if p := (pair{x, y}); p.norm() > best.norm() && p.divides(a) && p.divides(b) {
				best = p
			}
		}
	}
	return best
}

func TestGcdIsTheGreatestThatDivides(t *testing.T) {
	for _, a := range square(5) {
		for _, b := range square(5) {
			want := pair{}
			if a != (pair{}) || b != (pair{}) {
				want = greatest(a, b, 8) // 8 8 is above the Norm of 5 + 5i
			}
			is(t, "Gcd", Gcd(a.number(), b.number()), want)
		}
	}
}

func TestGcdDividesBoth(t *testing.T) {
	pairs(func(a, b pair) {
		g := pairOf(t, "Gcd", Gcd(a.number(), b.number()))
		if !g.divides(a) || !g.divides(b) || g.stands() == (a == pair{} && b == pair{}) {
			t.Errorf("Gcd(%v, %v): %v", a, b, g)
		}
		if back := Gcd(b.number(), a.number()); !same(back, g.number()) {
			t.Errorf("Gcd(%v, %v): %v, the other way %v", a, b, g, back)
		}
	})
}

func common(a, b int) int {
	for b != 0 {
		a, b = b, a%b
	}
	return a
}

// Two numbers whose Norms share nothing share nothing but units: of both times
// c it is c that is told, as one of its four turns.
func TestGcdOfMultiples(t *testing.T) {
	m := mixer(6)
	held := 0
	for range 50000 {
		a, b, c := pair{m.within(700), m.within(700)}, pair{m.within(700), m.within(700)}, pair{m.within(700), m.within(700)}
		if common(a.norm(), b.norm()) != 1 || c == (pair{}) {
			continue
		}
		held++
		for !c.stands() {
			c = c.round(1)
		}
		is(t, "Gcd of multiples", Gcd(a.times(c).number(), b.times(c).number()), c)
	}
	if held < 10000 {
		t.Errorf("%d alone", held)
	}
}

func TestGcdHangsNotOnUnits(t *testing.T) {
	m := mixer(7)
	for range 3000 {
		a, b := m.pair(), m.pair()
		want := Gcd(a.number(), b.number())
		for k := range 4 {
			if got := Gcd(a.round(k).number(), b.round(k/2).number()); !same(got, want) {
				t.Errorf("Gcd of turns of %v, %v: %v, not %v", a, b, got, want)
			}
		}
	}
}
