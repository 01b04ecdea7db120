package fp12

import (
	"testing"

	"intaglio/api"
)

// P7.1: May.

func TestMayAsksAllParts(t *testing.T) {
	for _, a := range many(5, 100) {
		if !May(a) {
			t.Errorf("May(%x): no", a)
		}
	}
	for _, a := range strange() {
		if May(a) {
			t.Errorf("May(%x): yes", a)
		}
	}
}

func TestMayOfAllOfNoughtsOnesAndTops(t *testing.T) {
	all := threes()
	for _, x := range all {
		for _, y := range all {
			if !May(api.Fp12{x, y}) {
				t.Fatalf("May(%x, %x): no", x, y)
			}
		}
	}
}

func TestMayAtTheEdge(t *testing.T) {
	top := same(near(-1))
	if !May(top) {
		t.Error("May of P - 1 alone: no")
	}
	for i := range 12 {
		for _, x := range strangeParts() {
			if May(with(top, i, x)) || May(with(api.Fp12{}, i, x)) {
				t.Errorf("May of %x at part %d: yes", x, i)
			}
		}
	}
}

// P7.1: One.

func TestOne(t *testing.T) {
	if One() != one || !May(One()) {
		t.Errorf("One: %x", One())
	}
	for _, a := range many(6, 100) {
		if Mul(a, One()) != a || Mul(One(), a) != a {
			t.Errorf("%x by 1: %x, %x", a, Mul(a, One()), Mul(One(), a))
		}
	}
}

// P7.1: Add, Sub, Mul, Conj.

func TestSumsAndProducts(t *testing.T) {
	twos(func(a, b api.Fp12) {
		x, y := plainOf(a), plainOf(b)
		is(t, "Add", Add(a, b), x.add(y))
		is(t, "Sub", Sub(a, b), x.add(y.neg()))
		is(t, "Mul", Mul(a, b), x.mul(y))
	})
	for _, a := range many(7, 200) {
		x := plainOf(a)
		is(t, "Mul by itself", Mul(a, a), x.mul(x))
		is(t, "Conj", Conj(a), x.conj())
	}
}

func TestSumsAndDifferencesAtTheEdges(t *testing.T) {
	top, ones := same(near(-1)), same(api.Fp{1})
	for _, x := range []struct {
		what      string
		got, want api.Fp12
	}{
		{"all tops and all ones", Add(top, ones), api.Fp12{}},
		{"all tops twice", Add(top, top), same(near(-2))},
		{"1 and w", Add(one, w), api.Fp12{one[0], one[0]}},
		{"0 and 0", Add(api.Fp12{}, api.Fp12{}), api.Fp12{}},
		{"0 less all ones", Sub(api.Fp12{}, ones), top},
		{"0 less all tops", Sub(api.Fp12{}, top), ones},
		{"all ones less all tops", Sub(ones, top), same(api.Fp{2})},
		{"all tops less themselves", Sub(top, top), api.Fp12{}},
		{"w less 1", Sub(w, one), api.Fp12{{{near(-1)}}, {{{1}}}}},
		{"1 less w", Sub(one, w), api.Fp12{{{{1}}}, {{near(-1)}}}},
	} {
		if x.got != x.want {
			t.Errorf("%s: %x, not %x", x.what, x.got, x.want)
		}
	}
	for i := range 12 {
		last, first := with(api.Fp12{}, i, near(-1)), with(api.Fp12{}, i, api.Fp{1})
		if Add(last, first) != (api.Fp12{}) || Sub(api.Fp12{}, first) != last {
			t.Errorf("part %d: P - 1 + 1 is %x, 0 - 1 is %x", i, Add(last, first), Sub(api.Fp12{}, first))
		}
	}
}

func TestProductsAtTheEdges(t *testing.T) {
	top := near(-1)
	lifted := api.Fp12{{{{1}, {1}}}} // 1 + u
	for _, x := range []struct {
		what      string
		got, want api.Fp12
	}{
		{"w w", Mul(w, w), v},
		{"w by v", Mul(w, v), vw},
		{"v by w", Mul(v, w), vw},
		{"v w by w", Mul(vw, w), vv},
		{"v v by w", Mul(vv, w), vvw},
		{"v v w by w", Mul(vvw, w), lifted},
		{"v v v", Mul(vv, v), lifted},
		{"v w by v w", Mul(vw, vw), lifted},
		{"v v w by v v w", Mul(vvw, vvw), api.Fp12{{{}, {}, {{1}, {1}}}}},
		{"v v w by v w", Mul(vvw, vw), api.Fp12{{{}, {{1}, {1}}}}},
		{"v v w by v", Mul(vvw, v), api.Fp12{{}, {{{1}, {1}}}}},
		{"u u", Mul(u, u), api.Fp12{{{top}}}},
		{"u w by u w", Mul(Mul(u, w), Mul(u, w)), api.Fp12{{{}, {top}}}},
		{"-w by -w", Mul(api.Fp12{{}, {{top}}}, api.Fp12{{}, {{top}}}), v},
		{"-1 by w", Mul(api.Fp12{{{top}}}, w), api.Fp12{{}, {{top}}}},
		{"-1 by -1", Mul(api.Fp12{{{top}}}, api.Fp12{{{top}}}), one},
		{"1 + w by 1 - w", Mul(Add(one, w), Sub(one, w)), api.Fp12{{{{1}}, {top}}}},
		{"1 + w by itself", Mul(Add(one, w), Add(one, w)), api.Fp12{{{{1}}, {{1}}}, {{{2}}}}},
		{"2 + 3 w by 5 + 7 w", Mul(api.Fp12{{{{2}}}, {{{3}}}}, api.Fp12{{{{5}}}, {{{7}}}}), api.Fp12{{{{10}}, {{21}}}, {{{29}}}}},
		{"v v w by 0", Mul(vvw, api.Fp12{}), api.Fp12{}},
		{"0 by all tops", Mul(api.Fp12{}, same(top)), api.Fp12{}},
		{"all tops by 1", Mul(same(top), one), same(top)},
		{"all tops by -1", Mul(same(top), api.Fp12{{{top}}}), same(api.Fp{1})},
	} {
		if x.got != x.want {
			t.Errorf("%s: %x, not %x", x.what, x.got, x.want)
		}
	}
}

func TestConjAtTheEdges(t *testing.T) {
	top := near(-1)
	for _, x := range []struct {
		what    string
		a, want api.Fp12
	}{
		{"0", api.Fp12{}, api.Fp12{}},
		{"1", one, one},
		{"-1", api.Fp12{{{top}}}, api.Fp12{{{top}}}},
		{"u", u, u},
		{"v", v, v},
		{"v v", vv, vv},
		{"w", w, api.Fp12{{}, {{top}}}},
		{"-w", api.Fp12{{}, {{top}}}, w},
		{"u w", api.Fp12{{}, {{{}, {1}}}}, api.Fp12{{}, {{{}, top}}}},
		{"v w", vw, api.Fp12{{}, {{}, {top}}}},
		{"v v w", vvw, api.Fp12{{}, {{}, {}, {top}}}},
		{"all ones", same(api.Fp{1}), api.Fp12{same(api.Fp{1})[0], same(top)[1]}},
		{"all tops", same(top), api.Fp12{same(top)[0], same(api.Fp{1})[1]}},
	} {
		if got := Conj(x.a); got != x.want {
			t.Errorf("Conj(%s): %x, not %x", x.what, got, x.want)
		}
	}
}

func TestConjGoesThroughSumsAndProducts(t *testing.T) {
	twos(func(a, b api.Fp12) {
		if Conj(Mul(a, b)) != Mul(Conj(a), Conj(b)) || Conj(Add(a, b)) != Add(Conj(a), Conj(b)) {
			t.Errorf("of %x, %x", a, b)
		}
		if Conj(Conj(a)) != a {
			t.Errorf("Conj of Conj of %x: %x", a, Conj(Conj(a)))
		}
		if Mul(a, Conj(a))[1] != (api.Fp6{}) {
			t.Errorf("%x by its Conj: %x", a, Mul(a, Conj(a)))
		}
	})
}

// P7.1: Inv.

func TestInv(t *testing.T) {
	for _, a := range many(8, 200) {
		if a == (api.Fp12{}) {
			continue
		}
		got, e := Inv(a)
		if e != api.OK || !May(got) || plainOf(a).mul(plainOf(got)).six() != one {
			t.Errorf("Inv(%x): %x, error %d", a, got, e)
		}
		if Mul(a, got) != One() || Mul(got, a) != One() {
			t.Errorf("%x by its inverse: %x", a, Mul(a, got))
		}
	}
}

func TestInvAtTheEdges(t *testing.T) {
	top := near(-1)
	// 1 / (1 + u) is (1 - u) / 2, and 1 / u is -u.
	part, back, on := api.Fp2{middle(1), middle(-1)}, api.Fp2{{}, top}, api.Fp2{{}, {1}}
	for _, x := range []struct {
		what    string
		a, want api.Fp12
	}{
		{"1", one, one},
		{"-1", api.Fp12{{{top}}}, api.Fp12{{{top}}}},
		{"2", api.Fp12{{{{2}}}}, api.Fp12{{{middle(1)}}}},
		{"u", u, api.Fp12{{back}}},
		{"1 + u", api.Fp12{{{{1}, {1}}}}, api.Fp12{{part}}},
		{"v", v, api.Fp12{{{}, {}, part}}},
		{"v v", vv, api.Fp12{{{}, part}}},
		{"w", w, api.Fp12{{}, {{}, {}, part}}},
		{"v w", vw, api.Fp12{{}, {{}, part}}},
		{"v v w", vvw, api.Fp12{{}, {part}}},
		{"w - 1", Sub(w, one), api.Fp12{{back, back, back}, {back, back, back}}},
		{"1 + w", Add(one, w), api.Fp12{{on, on, on}, {back, back, back}}},
		{"1 + w + v", Add(Add(one, w), v), api.Fp12{{on, {}, back}, {back, on}}},
	} {
		if got, e := Inv(x.a); got != x.want || e != api.OK {
			t.Errorf("Inv(%s): %x, error %d, not %x", x.what, got, e, x.want)
		}
	}
}

func TestInvWhereOneThreeIsNought(t *testing.T) {
	m := mixer(9)
	for range 50 {
		a := m.number()
		low, e := Inv(api.Fp12{a[0]})
		if e != api.OK || low[1] != (api.Fp6{}) || plainOf(low).mul(plainOf(api.Fp12{a[0]})).six() != one {
			t.Errorf("Inv(%x): %x, error %d", a[0], low, e)
		}
		high, e := Inv(api.Fp12{{}, a[1]})
		if e != api.OK || high[0] != (api.Fp6{}) || plainOf(high).mul(plainOf(api.Fp12{{}, a[1]})).six() != one {
			t.Errorf("Inv(%x w): %x, error %d", a[1], high, e)
		}
	}
}

func TestInvOfNought(t *testing.T) {
	if got, e := Inv(api.Fp12{}); got != (api.Fp12{}) || e != api.ErrZero {
		t.Errorf("Inv(0): %x, error %d", got, e)
	}
}

// What follows: a field.

func TestField(t *testing.T) {
	m := mixer(10)
	list := some(11)
	for _, a := range list {
		for _, b := range list {
			c := m.number()
			for what, holds := range map[string]bool{
				"a + b is b + a":             Add(a, b) == Add(b, a),
				"a b is b a":                 Mul(a, b) == Mul(b, a),
				"(a + b) + c is a + (b + c)": Add(Add(a, b), c) == Add(a, Add(b, c)),
				"(a b) c is a (b c)":         Mul(Mul(a, b), c) == Mul(a, Mul(b, c)),
				"a (b + c) is a b + a c":     Mul(a, Add(b, c)) == Add(Mul(a, b), Mul(a, c)),
				"(a - b) + b is a":           Add(Sub(a, b), b) == a,
				"a - b is -(b - a)":          Sub(a, b) == Sub(api.Fp12{}, Sub(b, a)),
				"a + 0 is a":                 Add(a, api.Fp12{}) == a,
				"a b is not 0":               (Mul(a, b) != api.Fp12{}) == (a != api.Fp12{} && b != api.Fp12{}),
			} {
				if !holds {
					t.Errorf("%s: %x, %x, %x", what, a, b, c)
				}
			}
		}
	}
}

func TestAnswersMayBe(t *testing.T) {
	twos(func(a, b api.Fp12) {
		for _, x := range []api.Fp12{Add(a, b), Sub(a, b), Mul(a, b), Conj(a)} {
			if !May(x) {
				t.Errorf("of %x, %x: %x", a, b, x)
			}
		}
	})
}
