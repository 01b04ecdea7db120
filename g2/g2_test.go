package g2

import (
	"math/big"
	"testing"

	"intaglio/api"
)

// The tests' own reckoning stands on these numbers.
func TestTheCurveHasSoManyPoints(t *testing.T) {
	if !order().ProbablyPrime(20) || !prime().ProbablyPrime(20) || !greatOrder().ProbablyPrime(20) {
		t.Error("R or P or the great order is no prime")
	}
	for _, p := range places(4) {
		if plainOf(p).mul(all()).has {
			t.Errorf("%v does not come to Inf", p)
		}
	}
	for _, q := range smallOrders() {
		for seed := range 2 {
			p := plainOf(ofOrder(q, seed))
			if !p.has || p.mul(big.NewInt(q)).has {
				t.Errorf("%v has not the order %d", p.point(), q)
			}
		}
	}
}

// P9.1: One.

func TestOneIsTheDocuments(t *testing.T) {
	want := plain{
		x: two{
			hex("024aa2b2f08f0a91260805272dc51051c6e47ad4fa403b02b4510b647ae3d1770bac0326a805bbefd48056c8c121bdb8"),
			hex("13e02b6052719f607dacd3a088274f65596bd0d09920b61ab5da61bbdc7f5049334cf11213945d57e5ac7d055d042b7e"),
		},
		y: two{
			hex("0ce5d527727d6e118cc9cdc6da2e351aadfd9baa8cbdd3a76d429a695160d12c923ac9cc3baca289e193548608b82801"),
			hex("0606c4a02ea734cc32acd2b02bc28b99cb3e287e85a763af267492ab572e99ab3f370d275cec1da1aaa9075ff05f79be"),
		},
		has: true,
	}
	is(t, "One", One(), want)
	if !want.y.mul(want.y).is(right(want.x)) {
		t.Error("One is beside the curve")
	}
	if want.mul(order()).has {
		t.Error("One has another order")
	}
}

// P9.1: On.

func TestOn(t *testing.T) {
	for _, p := range points() {
		if !On(p) {
			t.Errorf("On(%v): no", p)
		}
	}
	for _, p := range odd() {
		if On(p) {
			t.Errorf("On(%v): yes", p)
		}
	}
}

func TestOnAsksForTheCurve(t *testing.T) {
	on, beside := 0, 0
	for i := range int64(100) {
		x := small(i%10-5, i/10-5)
		a, is := at(x)
		if !is {
			// What the way to a root comes to where there is none: its square
			// is another number.
			beside++
			if On(plain{x, a.y, true}.point()) {
				t.Errorf("On at %v, where there is no place", x)
			}
			continue
		}
		on++
		if !On(a.point()) || !On(a.neg().point()) {
			t.Errorf("On at %v: no", x)
		}
		for _, y := range []two{a.y.add(small(1, 0)), a.y.add(small(-1, 0)), a.y.add(small(0, 1)), a.y.mul(small(0, 1)), {a.y[1], a.y[0]}, small(0, 0)} {
			if On(plain{x, y, true}.point()) {
				t.Errorf("On at %v, %v, beside the curve", x, y)
			}
		}
	}
	if on < 25 || beside < 25 {
		t.Errorf("%d on the curve, %d beside it", on, beside)
	}
}

// Places of curves that go as ours does, with another number for 4 (1 + u).
func TestOnIsNotOfOtherCurves(t *testing.T) {
	for _, more := range []two{small(4, 0), small(0, 4), small(4, -4), small(1, 1), small(-4, -4), small(2, 2), small(8, 8)} {
		found := 0
		for i := int64(1); i <= 20; i++ {
			x := small(i, i%3)
			if y, is := x.mul(x).mul(x).add(more).root(); is {
				found++
				if On(plain{x, y, true}.point()) {
					t.Errorf("On at %v of the curve of %v", x, more)
				}
			}
		}
		if found < 1 {
			t.Errorf("%d places of the curve of %v", found, more)
		}
	}
}

// past is a with P taken so many times more in one part.
func past(a api.Fp2, part int, times int64) api.Fp2 {
	more := new(big.Int).Mul(prime(), big.NewInt(times))
	a[part] = partOf(more.Add(more, bigOf(a[part][:])))
	return a
}

// The same place modulo P, but with a part that is not below P, is none.
func TestOnAsksForPartsBelowP(t *testing.T) {
	for _, p := range points() {
		if p.Inf {
			continue
		}
		for times := int64(1); times <= 7; times++ {
			for part := range 2 {
				x, y := past(p.X, part, times), past(p.Y, part, times)
				for _, q := range []api.G2{{X: x, Y: p.Y}, {X: p.X, Y: y}, {X: x, Y: y}} {
					if On(q) {
						t.Errorf("On(%v): yes", q)
					}
				}
			}
		}
	}
}

func TestOnLooksAtEachLimb(t *testing.T) {
	for _, p := range points() {
		if p.Inf {
			continue
		}
		for i := range 12 {
			x, y := p, p
			x.X[i/6][i%6] ^= 1
			y.Y[i/6][i%6] ^= 1
			if On(x) || On(y) {
				t.Errorf("another bit in limb %d of %v: On", i, p)
			}
		}
		p.Inf = true
		if On(p) {
			t.Errorf("On(%v): yes", p)
		}
	}
}

// P9.1: Add, Neg.

func TestAdd(t *testing.T) {
	twos(func(p, q api.G2) {
		is(t, "Add", Add(p, q), plainOf(p).add(plainOf(q)))
	})
}

func TestNeg(t *testing.T) {
	for _, p := range points() {
		is(t, "Neg", Neg(p), plainOf(p).neg())
		if Add(p, Neg(p)) != inf || Add(Neg(p), p) != inf || Neg(Neg(p)) != p {
			t.Errorf("%v and its negative", p)
		}
	}
}

func TestSumsAtTheEdges(t *testing.T) {
	g := One()
	twice := plainOf(g).add(plainOf(g)).point()
	for _, x := range []struct {
		what      string
		got, want api.G2
	}{
		{"Inf + Inf", Add(inf, inf), inf},
		{"g2 + Inf", Add(g, inf), g},
		{"Inf + g2", Add(inf, g), g},
		{"g2 + g2", Add(g, g), twice},
		{"g2 - g2", Add(g, Neg(g)), inf},
		{"-g2 + g2", Add(Neg(g), g), inf},
		{"-g2 - g2", Add(Neg(g), Neg(g)), Neg(twice)},
		{"2 g2 - g2", Add(twice, Neg(g)), g},
		{"g2 - 2 g2", Add(g, Neg(twice)), Neg(g)},
		{"-Inf", Neg(inf), inf},
	} {
		if x.got != x.want {
			t.Errorf("%s: %v, not %v", x.what, x.got, x.want)
		}
	}
}

// The document's own words: the sum of three points of a line is Inf. What
// stands on a line, the great numbers say, not the call.
func TestThreePointsOfALine(t *testing.T) {
	twos(func(p, q api.G2) {
		r := Neg(Add(p, q))
		if Add(Add(p, q), r) != inf || Add(p, Add(q, r)) != inf {
			t.Errorf("%v, %v, %v do not come to Inf", p, q, r)
		}
		if p.Inf || q.Inf || r.Inf {
			return
		}
		a, b, c := plainOf(p), plainOf(q), plainOf(r)
		s, _ := a.slope(b)
		if !c.x.sub(a.x).mul(s).is(c.y.sub(a.y)) {
			t.Errorf("%v, %v, %v are of no line", p, q, r)
		}
	})
}

// round is p's multiples, from Inf on till it comes back.
func round(p api.G2) []api.G2 {
	out := []api.G2{inf}
	for q := p; q != inf; q = plainOf(q).add(plainOf(p)).point() {
		out = append(out, q)
	}
	return out
}

// All points of one small order, each with each: all ways in which a line may
// meet the curve.
func TestAddOfAllOfOneOrder(t *testing.T) {
	for _, list := range [][]api.G2{round(thirteen), round(ofOrder(13, 1)), round(ofOrder(23, 1))} {
		for i, p := range list {
			for j, q := range list {
				if got, want := Add(p, q), list[(i+j)%len(list)]; got != want {
					t.Errorf("%v + %v: %v, not %v", p, q, got, want)
				}
			}
			if got, want := Neg(p), list[(len(list)-i)%len(list)]; got != want {
				t.Errorf("-(%v): %v, not %v", p, got, want)
			}
		}
	}
}

// P9.1: Equal.

func TestEqual(t *testing.T) {
	list := points()
	for _, p := range list {
		for _, q := range list {
			if got, want := Equal(p, q), !plainOf(p).add(plainOf(q).neg()).has; got != want {
				t.Errorf("Equal(%v, %v): %t", p, q, got)
			}
		}
	}
	g := One()
	if !Equal(Add(g, g), Mul(g, api.Fr{2})) || Equal(g, Neg(g)) || Equal(g, inf) || Equal(inf, g) || !Equal(inf, inf) || Equal(thirteen, inf) {
		t.Error("Equal")
	}
}

func TestEqualLooksAtEachPart(t *testing.T) {
	// Of one x two points, and of one y three: the cube roots of one move x.
	root := two{hex("5f19672fdf76ce51ba69c6076a0f77eaddb3a93be6f89688de17d813620a00022e01fffffffefffe"), new(big.Int)}
	for _, p := range append(places(5), One()) {
		moved := api.G2{X: twoOf(p.X).mul(root).pair(), Y: p.Y}
		if !On(moved) {
			t.Fatalf("%v is beside the curve", moved)
		}
		if Equal(p, Neg(p)) || Equal(p, moved) || !Equal(p, p) {
			t.Errorf("Equal of %v", p)
		}
	}
}

// What follows: a group.

func TestGroup(t *testing.T) {
	m := mixer(3)
	others := []api.G2{One(), thirteen, m.outside(), m.inside(), inf}
	twos(func(p, q api.G2) {
		r := others[m.next()%5]
		if Add(p, q) != Add(q, p) {
			t.Errorf("%v and %v turned round", p, q)
		}
		if Add(Add(p, q), r) != Add(p, Add(q, r)) {
			t.Errorf("%v, %v, %v: sums of sums", p, q, r)
		}
		if Neg(Add(p, q)) != Add(Neg(p), Neg(q)) {
			t.Errorf("%v, %v: the sum's negative", p, q)
		}
		if Add(p, inf) != p || Add(Add(p, q), Neg(q)) != p {
			t.Errorf("%v and back by %v", p, q)
		}
	})
}

func TestAnswersAreOn(t *testing.T) {
	twos(func(p, q api.G2) {
		for _, x := range []api.G2{Add(p, q), Neg(p)} {
			if !On(x) {
				t.Errorf("of %v, %v: %v", p, q, x)
			}
		}
	})
}
