package g2

import (
	"slices"
	"testing"

	"intaglio/api"
)

// R3 and R4: nothing that is handed in is changed or kept, and a call answers
// the same again, whatever was asked in between.

// roomy is list with spare room that holds mark.
func roomy[T any](list []T, mark T) []T {
	return append(slices.Clone(list), mark, mark)
}

func TestListsAreLeftAsTheyWere(t *testing.T) {
	for n := range 8 {
		p, k := terms(mixer(20+n), n)
		ps, ks := roomy(p, thirteen), roomy(k, api.Fr{77})
		first := Sum(ps[:n], ks[:n])
		if !slices.Equal(ps, roomy(p, thirteen)) || !slices.Equal(ks, roomy(k, api.Fr{77})) {
			t.Errorf("Sum: what was handed in has changed: %v, %v", ps, ks)
		}
		for i := range ps {
			ps[i], ks[i] = One(), api.Fr{5}
		}
		if again := Sum(slices.Clone(p), slices.Clone(k)); again != first {
			t.Errorf("Sum(%v, %v): %v, then %v", p, k, first, again)
		}
	}
}

func TestAnswersAreTheSameAgain(t *testing.T) {
	m := mixer(14)
	for _, p := range points() {
		q, k := m.inside(), m.scalar()
		before, beside := p, q
		sum, back, product, on, in, equal := Add(p, q), Neg(p), Mul(p, k), On(p), In(p), Equal(p, q)
		if p != before || q != beside {
			t.Errorf("%v and %v are now %v and %v", before, beside, p, q)
		}
		Add(q, q)
		Neg(q)
		Mul(q, k)
		Sum([]api.G2{q, p}, []api.Fr{k, k})
		if Add(p, q) != sum || Neg(p) != back || Mul(p, k) != product || On(p) != on || In(p) != in || Equal(p, q) != equal {
			t.Errorf("of %v another answer", p)
		}
	}
}

func TestOneIsNewEachTime(t *testing.T) {
	want := One()
	first := One()
	first.X[0][0], first.Y[1][5], first.Inf = 9, 9, true
	if One() != want || !In(One()) {
		t.Errorf("One: %v", One())
	}
}

// R1: of what is not On, of scalars that may not be, and beyond the limits,
// calls still end, and none panics.

func TestWhatIsNotOn(t *testing.T) {
	full := api.Fr{most, most, most, most}
	for _, p := range odd() {
		for _, q := range append(odd(), inf, One(), thirteen) {
			Add(p, q)
			Add(q, p)
			Equal(p, q)
			Equal(q, p)
		}
		Neg(p)
		In(p)
		for _, k := range []api.Fr{{3}, full} {
			Mul(p, k)
			Sum([]api.G2{p, One(), p}, []api.Fr{k, k, full})
		}
	}
}

func TestScalarsThatMayNotBe(t *testing.T) {
	for _, k := range []api.Fr{nearR(0), nearR(1), {0, 0, 0, 1 << 63}, {most, most, most, most}} {
		for _, p := range []api.G2{inf, One(), thirteen} {
			Mul(p, k)
			Sum([]api.G2{p, p}, []api.Fr{k, {1}})
		}
	}
}

func TestBeyondTheLimits(t *testing.T) {
	for _, n := range []int{101, 300} {
		Sum(slices.Repeat([]api.G2{One(), thirteen}, n), slices.Repeat([]api.Fr{{most, most, most, most}, {7}}, n))
	}
}
