package g1

import (
	"math/big"
	"testing"

	"intaglio/api"
)

// The tests' own reckoning stands on these numbers.
func TestTheCurveHasSoManyPoints(t *testing.T) {
	if !order().ProbablyPrime(20) || !prime().ProbablyPrime(20) {
		t.Error("R or P is no prime")
	}
	for _, p := range places(10) {
		if plainOf(p).mul(all()).x != nil {
			t.Errorf("%v does not come to Inf", p)
		}
	}
	for _, q := range smallOrders() {
		for seed := range 4 {
			p := plainOf(ofOrder(q, seed))
			if p.x == nil || p.mul(big.NewInt(q)).x != nil {
				t.Errorf("%v has not the order %d", p.point(), q)
			}
		}
	}
	for k := range int64(11) {
		if plainOf(ofOrder(11, 1)).mul(big.NewInt(k)).point() == ofOrder(11, 2) {
			t.Error("one subgroup of the order 11, not two")
		}
	}
}

// P8.1: One.

func TestOneIsTheDocuments(t *testing.T) {
	want := plain{
		hex("17f1d3a73197d7942695638c4fa9ac0fc3688c4f9774b905a14e3a3f171bac586c55e83ff97a1aeffb3af00adb22c6bb"),
		hex("08b3f481e3aaa0f1a09e30ed741d8ae4fcf5e095d5d00af600db18cb2c04b3edd03cc744a2888ae40caa232946c5e7e1"),
	}
	is(t, "One", One(), want)
	if right(want.x).Cmp(new(big.Int).Exp(want.y, big.NewInt(2), prime())) != 0 {
		t.Error("One is beside the curve")
	}
	if want.mul(order()).x != nil {
		t.Error("One has another order")
	}
}

// P8.1: On.

func TestOn(t *testing.T) {
	for _, p := range points() {
		if !On(p) {
			t.Errorf("On(%v): no", p)
		}
	}
	for _, p := range odd() {
		if On(p) {
			t.Errorf("On(%v): yes", p)
		}
	}
}

func TestOnAsksForTheCurve(t *testing.T) {
	on, beside := 0, 0
	for x := int64(-200); x <= 200; x++ {
		a, is := at(x)
		if !is {
			// Then its negative has a root: the place is on no curve of ours.
			y := new(big.Int).ModSqrt(new(big.Int).Sub(prime(), right(a.x)), prime())
			beside++
			if On(plain{a.x, y}.point()) {
				t.Errorf("On at %d, where there is no place", x)
			}
			continue
		}
		on++
		if !On(a.point()) || !On(a.neg().point()) {
			t.Errorf("On at %d: no", x)
		}
		up := new(big.Int).Add(a.y, big.NewInt(1))
		down := new(big.Int).Sub(a.y, big.NewInt(1))
		if On(plain{a.x, up}.point()) || On(plain{a.x, down}.point()) || On(api.G1{X: numberOf(a.x)}) {
			t.Errorf("On at %d, beside the curve", x)
		}
	}
	if on < 100 || beside < 100 {
		t.Errorf("%d on the curve, %d beside it", on, beside)
	}
}

// The same place modulo P, but with a number that is not below P, is none.
func TestOnAsksForNumbersBelowP(t *testing.T) {
	for _, p := range points() {
		if p.Inf {
			continue
		}
		for times := int64(1); times <= 7; times++ {
			more := new(big.Int).Mul(prime(), big.NewInt(times))
			x := numberOf(new(big.Int).Add(bigOf(p.X[:]), more))
			y := numberOf(new(big.Int).Add(bigOf(p.Y[:]), more))
			for _, q := range []api.G1{{X: x, Y: p.Y}, {X: p.X, Y: y}, {X: x, Y: y}} {
				if On(q) {
					t.Errorf("On(%v): yes", q)
				}
			}
		}
	}
}

func TestOnLooksAtEachLimb(t *testing.T) {
	for _, p := range points() {
		if p.Inf {
			continue
		}
		for i := range 6 {
			x, y := p, p
			x.X[i] ^= 1
			y.Y[i] ^= 1
			if On(x) || On(y) {
				t.Errorf("another bit in limb %d of %v: On", i, p)
			}
		}
		p.Inf = true
		if On(p) {
			t.Errorf("On(%v): yes", p)
		}
	}
}

// P8.1: Add, Neg.

func TestAdd(t *testing.T) {
	twos(func(p, q api.G1) {
		is(t, "Add", Add(p, q), plainOf(p).add(plainOf(q)))
	})
}

func TestNeg(t *testing.T) {
	for _, p := range points() {
		is(t, "Neg", Neg(p), plainOf(p).neg())
		if Add(p, Neg(p)) != inf || Add(Neg(p), p) != inf || Neg(Neg(p)) != p {
			t.Errorf("%v and its negative", p)
		}
	}
}

func TestSumsAtTheEdges(t *testing.T) {
	g := One()
	less := api.G1{Y: nearP(-2)}
	for _, x := range []struct {
		what      string
		got, want api.G1
	}{
		{"Inf + Inf", Add(inf, inf), inf},
		{"g1 + Inf", Add(g, inf), g},
		{"Inf + g1", Add(inf, g), g},
		{"g1 - g1", Add(g, Neg(g)), inf},
		{"-g1 + g1", Add(Neg(g), g), inf},
		{"-Inf", Neg(inf), inf},
		{"-(0, 2)", Neg(three), less},
		{"(0, 2) + (0, 2)", Add(three, three), less},
		{"(0, -2) + (0, -2)", Add(less, less), three},
		{"(0, 2) + (0, -2)", Add(three, less), inf},
		{"(0, 2) + Inf", Add(three, inf), three},
		{"Inf + (0, 2)", Add(inf, three), three},
	} {
		if x.got != x.want {
			t.Errorf("%s: %v, not %v", x.what, x.got, x.want)
		}
	}
}

// The document's own words: the sum of three points of a line is Inf. What
// stands on a line, the great numbers say, not the call.
func TestThreePointsOfALine(t *testing.T) {
	twos(func(p, q api.G1) {
		r := Neg(Add(p, q))
		if Add(Add(p, q), r) != inf || Add(p, Add(q, r)) != inf {
			t.Errorf("%v, %v, %v do not come to Inf", p, q, r)
		}
		if p.Inf || q.Inf || r.Inf {
			return
		}
		a, b, c := plainOf(p), plainOf(q), plainOf(r)
		s := a.slope(b)
		off := new(big.Int).Sub(c.x, a.x)
		off.Sub(off.Mul(off, s), c.y)
		if off.Mod(off.Add(off, a.y), prime()).Sign() != 0 {
			t.Errorf("%v, %v, %v are of no line", p, q, r)
		}
	})
}

// All points of one small order, each with each: all ways in which a line may
// meet the curve.
func TestAddOfAllOfOneOrder(t *testing.T) {
	steps := func(p api.G1) []api.G1 {
		out := []api.G1{inf}
		for q := p; q != inf; q = plainOf(q).add(plainOf(p)).point() {
			out = append(out, q)
		}
		return out
	}
	for _, list := range [][]api.G1{steps(three), steps(ofOrder(11, 1)), steps(ofOrder(11, 2)), steps(plainOf(three).add(plainOf(ofOrder(11, 3))).point())} {
		for i, p := range list {
			for j, q := range list {
				if got, want := Add(p, q), list[(i+j)%len(list)]; got != want {
					t.Errorf("%v + %v: %v, not %v", p, q, got, want)
				}
			}
			if got, want := Neg(p), list[(len(list)-i)%len(list)]; got != want {
				t.Errorf("-(%v): %v, not %v", p, got, want)
			}
		}
	}
}

// P8.1: Equal.

func TestEqual(t *testing.T) {
	list := points()
	for _, p := range list {
		for _, q := range list {
			if got, want := Equal(p, q), plainOf(p).add(plainOf(q).neg()).x == nil; got != want {
				t.Errorf("Equal(%v, %v): %t", p, q, got)
			}
		}
	}
	g := One()
	if !Equal(Add(g, g), Mul(g, api.Fr{2})) || Equal(g, Neg(g)) || Equal(g, inf) || Equal(inf, g) || !Equal(inf, inf) || Equal(three, inf) {
		t.Error("Equal")
	}
}

func TestEqualLooksAtEachPart(t *testing.T) {
	// Of one x two points, and of one y three: the cube roots of one move x.
	root := hex("5f19672fdf76ce51ba69c6076a0f77eaddb3a93be6f89688de17d813620a00022e01fffffffefffe")
	for _, p := range append(places(5), One()) {
		x := new(big.Int).Mul(bigOf(p.X[:]), root)
		moved := api.G1{X: numberOf(x.Mod(x, prime())), Y: p.Y}
		if !On(moved) {
			t.Fatalf("%v is beside the curve", moved)
		}
		if Equal(p, Neg(p)) || Equal(p, moved) != (p.X == api.Fp{}) || !Equal(p, p) {
			t.Errorf("Equal of %v", p)
		}
	}
}

// What follows: a group.

func TestGroup(t *testing.T) {
	m := mixer(3)
	twos(func(p, q api.G1) {
		r := []api.G1{One(), three, p, Neg(q), m.outside()}[m.next()%5]
		if Add(p, q) != Add(q, p) {
			t.Errorf("%v and %v turned round", p, q)
		}
		if Add(Add(p, q), r) != Add(p, Add(q, r)) {
			t.Errorf("%v, %v, %v: sums of sums", p, q, r)
		}
		if Neg(Add(p, q)) != Add(Neg(p), Neg(q)) {
			t.Errorf("%v, %v: the sum's negative", p, q)
		}
		if Add(p, inf) != p || Add(Add(p, q), Neg(q)) != p {
			t.Errorf("%v and back by %v", p, q)
		}
	})
}

func TestAnswersAreOn(t *testing.T) {
	twos(func(p, q api.G1) {
		for _, x := range []api.G1{Add(p, q), Neg(p)} {
			if !On(x) {
				t.Errorf("of %v, %v: %v", p, q, x)
			}
		}
	})
}
