package fp6

import (
	"testing"

	"intaglio/api"
)

// P6.1: May.

func TestMayAsksAllParts(t *testing.T) {
	for _, a := range many(4, 100) {
		if !May(a) {
			t.Errorf("May(%x): no", a)
		}
	}
	for _, a := range strange() {
		if May(a) {
			t.Errorf("May(%x): yes", a)
		}
	}
}

func TestMayAtTheEdge(t *testing.T) {
	top := api.Fp2{near(-1), near(-1)}
	if !May(api.Fp6{top, top, top}) {
		t.Error("May of P - 1 alone: no")
	}
	for i := range 6 {
		if May(with(api.Fp6{top, top, top}, i, near(0))) {
			t.Errorf("May of P - 1, and P at part %d: yes", i)
		}
	}
}

// P6.1: Add, Sub, Neg, Mul.

func TestSumsAndProducts(t *testing.T) {
	twos(func(a, b api.Fp6) {
		x, y := plainOf(a), plainOf(b)
		is(t, "Add", Add(a, b), x.add(y))
		is(t, "Sub", Sub(a, b), x.add(y.neg()))
		is(t, "Mul", Mul(a, b), x.mul(y))
	})
	for _, a := range many(5, 500) {
		x := plainOf(a)
		is(t, "Neg", Neg(a), x.neg())
		is(t, "Mul by itself", Mul(a, a), x.mul(x))
	}
}

func TestSumsAndProductsAtTheEdges(t *testing.T) {
	top, nought := near(-1), api.Fp2{}
	u := api.Fp6{{{}, {1}}}
	for _, x := range []struct {
		what      string
		got, want api.Fp6
	}{
		{"v v", Mul(v, v), vv},
		{"v v v", Mul(vv, v), api.Fp6{{{1}, {1}}}},
		{"v v by v v", Mul(vv, vv), api.Fp6{nought, {{1}, {1}}}},
		{"u u", Mul(u, u), api.Fp6{{top}}},
		{"u v", Mul(u, v), api.Fp6{nought, {{}, {1}}}},
		{"u v by u v v", Mul(Mul(u, v), Mul(u, vv)), api.Fp6{{top, top}}},
		{"1 + v by 1 - v", Mul(Add(one, v), Sub(one, v)), api.Fp6{{{1}}, nought, {top}}},
		{"1 + v + v v by v - 1", Mul(api.Fp6{{{1}}, {{1}}, {{1}}}, api.Fp6{{top}, {{1}}}), api.Fp6{{{}, {1}}}},
		{"1 + v + v v by itself", Mul(api.Fp6{{{1}}, {{1}}, {{1}}}, api.Fp6{{{1}}, {{1}}, {{1}}}), api.Fp6{{{3}, {2}}, {{3}, {1}}, {{3}}}},
		{"-1 by -1", Mul(api.Fp6{{top}}, api.Fp6{{top}}), one},
		{"v v by 0", Mul(vv, api.Fp6{}), api.Fp6{}},
		{"v v by 1", Mul(vv, one), vv},
		{"v and -v", Add(v, api.Fp6{nought, {top}}), api.Fp6{}},
		{"-1 and 2 v v", Add(api.Fp6{{top}}, api.Fp6{nought, nought, {{2}}}), api.Fp6{{top}, nought, {{2}}}},
		{"0 - v v", Sub(api.Fp6{}, vv), api.Fp6{nought, nought, {top}}},
		{"v - 1", Sub(v, one), api.Fp6{{top}, {{1}}}},
		{"-0", Neg(api.Fp6{}), api.Fp6{}},
		{"-(1)", Neg(one), api.Fp6{{top}}},
		{"-(v)", Neg(v), api.Fp6{nought, {top}}},
		{"-(v v)", Neg(vv), api.Fp6{nought, nought, {top}}},
		{"-(u v v)", Neg(Mul(u, vv)), api.Fp6{nought, nought, {{}, top}}},
	} {
		if x.got != x.want {
			t.Errorf("%s: %x, not %x", x.what, x.got, x.want)
		}
	}
}

// P6.1: Up.

func TestUpAtTheEdges(t *testing.T) {
	top, nought := near(-1), api.Fp2{}
	for _, x := range []struct {
		what    string
		a, want api.Fp6
	}{
		{"0", api.Fp6{}, api.Fp6{}},
		{"1", one, v},
		{"v", v, vv},
		{"v v", vv, api.Fp6{{{1}, {1}}}},
		{"u v v", api.Fp6{nought, nought, {{}, {1}}}, api.Fp6{{top, {1}}}},
		{"-v v", api.Fp6{nought, nought, {top}}, api.Fp6{{top, top}}},
		{"1 + 2 v + 3 v v", api.Fp6{{{1}}, {{2}}, {{3}}}, api.Fp6{{{3}, {3}}, {{1}}, {{2}}}},
		{"(2 + 5 u) v v", api.Fp6{nought, nought, {{2}, {5}}}, api.Fp6{{near(-3), {7}}}},
		{"(-1 - u) v v", api.Fp6{nought, nought, {top, top}}, api.Fp6{{{}, near(-2)}}},
	} {
		if got := Up(x.a); got != x.want {
			t.Errorf("Up(%s): %x, not %x", x.what, got, x.want)
		}
	}
}

func TestUpIsMulByV(t *testing.T) {
	for _, a := range many(6, 500) {
		is(t, "Up", Up(a), plainOf(a).mul(plainOf(v)))
		if Up(a) != Mul(a, v) {
			t.Errorf("Up(%x): %x, and by v %x", a, Up(a), Mul(a, v))
		}
	}
}

// P6.1: Inv.

func TestInv(t *testing.T) {
	for _, a := range many(7, 200) {
		if a == (api.Fp6{}) {
			continue
		}
		got, e := Inv(a)
		if e != api.OK || !May(got) || plainOf(a).mul(plainOf(got)).three() != one {
			t.Errorf("Inv(%x): %x, error %d", a, got, e)
		}
	}
}

func TestInvAtTheEdges(t *testing.T) {
	top, nought := near(-1), api.Fp2{}
	// 1 / (1 + u) is (1 - u) / 2.
	part := api.Fp2{middle(1), middle(-1)}
	for _, x := range []struct {
		what    string
		a, want api.Fp6
	}{
		{"1", one, one},
		{"-1", api.Fp6{{top}}, api.Fp6{{top}}},
		{"2", api.Fp6{{{2}}}, api.Fp6{{middle(1)}}},
		{"u", api.Fp6{{{}, {1}}}, api.Fp6{{{}, top}}},
		{"1 + u", api.Fp6{{{1}, {1}}}, api.Fp6{part}},
		{"v", v, api.Fp6{nought, nought, part}},
		{"v v", vv, api.Fp6{nought, part}},
		{"v - 1", api.Fp6{{top}, {{1}}}, api.Fp6{{{}, top}, {{}, top}, {{}, top}}},
		{"1 + v + v v", api.Fp6{{{1}}, {{1}}, {{1}}}, api.Fp6{{{}, {1}}, {{}, top}}},
	} {
		if got, e := Inv(x.a); got != x.want || e != api.OK {
			t.Errorf("Inv(%s): %x, error %d, not %x", x.what, got, e, x.want)
		}
	}
}

func TestInvOfNought(t *testing.T) {
	if got, e := Inv(api.Fp6{}); got != (api.Fp6{}) || e != api.ErrZero {
		t.Errorf("Inv(0): %x, error %d", got, e)
	}
}

// What follows: a field.

func TestField(t *testing.T) {
	m := mixer(8)
	list := some(9)
	for _, a := range list {
		for _, b := range list {
			c := m.number()
			for what, holds := range map[string]bool{
				"a + b is b + a":             Add(a, b) == Add(b, a),
				"a b is b a":                 Mul(a, b) == Mul(b, a),
				"(a + b) + c is a + (b + c)": Add(Add(a, b), c) == Add(a, Add(b, c)),
				"(a b) c is a (b c)":         Mul(Mul(a, b), c) == Mul(a, Mul(b, c)),
				"a (b + c) is a b + a c":     Mul(a, Add(b, c)) == Add(Mul(a, b), Mul(a, c)),
				"a - b is a + -b":            Sub(a, b) == Add(a, Neg(b)),
				"Up of a b":                  Up(Mul(a, b)) == Mul(Up(a), b),
				"Up of a + b":                Up(Add(a, b)) == Add(Up(a), Up(b)),
				"a + 0 is a":                 Add(a, api.Fp6{}) == a,
				"a 1 is a":                   Mul(a, one) == a,
			} {
				if !holds {
					t.Errorf("%s: %x, %x, %x", what, a, b, c)
				}
			}
		}
	}
}

func TestAnswersMayBe(t *testing.T) {
	twos(func(a, b api.Fp6) {
		for _, x := range []api.Fp6{Add(a, b), Sub(a, b), Neg(a), Mul(a, b), Up(a)} {
			if !May(x) {
				t.Errorf("of %x, %x: %x", a, b, x)
			}
		}
	})
}
