package limb

import (
	"math/big"
	"slices"
	"testing"

	"intaglio/api"
)

// P1.1: Compare.

func TestCompareTellsTheOrder(t *testing.T) {
	for _, x := range []struct {
		a, b []uint64
		want int
	}{
		{[]uint64{3}, []uint64{5}, -1},
		{[]uint64{5}, []uint64{5}, 0},
		{[]uint64{5}, []uint64{3}, 1},
		{[]uint64{9, 1}, []uint64{0, 2}, -1},
		{[]uint64{0, 2}, []uint64{9, 1}, 1},
		{[]uint64{1, 2, 3}, []uint64{2, 2, 3}, -1},
		{[]uint64{most}, []uint64{0, 1}, -1},
		{[]uint64{1 << 63}, []uint64{1}, 1},
		{nil, nil, 0},
		{nil, []uint64{}, 0},
		{nil, []uint64{0, 0}, 0},
		{nil, []uint64{1}, -1},
		{[]uint64{1, 0, 0}, []uint64{1}, 0},
		{[]uint64{1, 0, 0}, []uint64{2}, -1},
		{[]uint64{2}, []uint64{1, 0, 0}, 1},
		{full(api.MaxLimbs), full(api.MaxLimbs), 0},
		{full(api.MaxLimbs), power(api.MaxLimbs - 1), 1},
	} {
		if got := Compare(x.a, x.b); got != x.want {
			t.Errorf("Compare(%x, %x): %d, not %d", x.a, x.b, got, x.want)
		}
	}
	pairs(api.MaxLimbs, func(a, b []uint64) {
		if got, want := Compare(a, b), bigOf(a).Cmp(bigOf(b)); got != want {
			t.Errorf("Compare(%x, %x): %d, not %d", a, b, got, want)
		}
	})
}

// P1.1: Add.

func TestAddCarries(t *testing.T) {
	for _, x := range []struct{ a, b, want []uint64 }{
		{[]uint64{2}, []uint64{3}, []uint64{5}},
		{[]uint64{2, 7}, []uint64{3}, []uint64{5, 7}},
		{[]uint64{3}, []uint64{2, 7}, []uint64{5, 7}},
		{[]uint64{most}, []uint64{1}, []uint64{0, 1}},
		{nil, nil, nil},
		{[]uint64{0}, []uint64{0, 0}, nil},
		{[]uint64{4, 0, 0}, nil, []uint64{4}},
		{full(api.MaxLimbs), []uint64{1}, power(api.MaxLimbs)},
		{[]uint64{1}, full(api.MaxLimbs), power(api.MaxLimbs)},
		{full(api.MaxLimbs), full(api.MaxLimbs), append(append([]uint64{most - 1}, full(api.MaxLimbs-1)...), 1)},
	} {
		if got := Add(x.a, x.b); !slices.Equal(got, x.want) {
			t.Errorf("Add(%x, %x): %x, not %x", x.a, x.b, got, x.want)
		}
	}
	pairs(api.MaxLimbs, func(a, b []uint64) {
		is(t, "Add", Add(a, b), new(big.Int).Add(bigOf(a), bigOf(b)))
	})
}

// P1.1: Sub.

func TestSubBorrows(t *testing.T) {
	for _, x := range []struct{ a, b, want []uint64 }{
		{[]uint64{5}, []uint64{3}, []uint64{2}},
		{[]uint64{0, 1}, []uint64{1}, []uint64{most}},
		{[]uint64{1, 7}, []uint64{0, 7}, []uint64{1}},
		{[]uint64{8}, []uint64{8, 0, 0}, nil},
		{[]uint64{8, 0, 0}, nil, []uint64{8}},
		{nil, nil, nil},
		{nil, []uint64{0, 0}, nil},
		{power(api.MaxLimbs - 1), []uint64{1}, full(api.MaxLimbs - 1)},
		{full(api.MaxLimbs), full(api.MaxLimbs), nil},
	} {
		if got, e := Sub(x.a, x.b); !slices.Equal(got, x.want) || e != api.OK {
			t.Errorf("Sub(%x, %x): %x, error %d, not %x", x.a, x.b, got, e, x.want)
		}
	}
	pairs(api.MaxLimbs, func(a, b []uint64) {
		got, e := Sub(a, b)
		want := new(big.Int).Sub(bigOf(a), bigOf(b))
		if want.Sign() < 0 {
			refused(t, "Sub of a greater number", got, e, api.ErrArg)
			return
		}
		is(t, "Sub", got, want)
		if e != api.OK {
			t.Errorf("Sub(%x, %x): error %d", a, b, e)
		}
	})
}

func TestSubRefusesAGreaterNumber(t *testing.T) {
	for _, x := range []struct{ a, b []uint64 }{
		{nil, []uint64{1}},
		{[]uint64{0, 0, 0}, []uint64{1}},
		{[]uint64{3}, []uint64{4}},
		{[]uint64{most, 1}, []uint64{0, 2}},
		{full(api.MaxLimbs - 1), power(api.MaxLimbs - 1)},
		{append([]uint64{most - 1}, full(api.MaxLimbs-1)...), full(api.MaxLimbs)},
	} {
		got, e := Sub(x.a, x.b)
		refused(t, "Sub of a greater number", got, e, api.ErrArg)
	}
}

// P1.1: Mul.

func TestMulCarries(t *testing.T) {
	half := api.MaxLimbs / 2
	square := append(append([]uint64{1}, make([]uint64, half-1)...), full(half)...)
	square[half] = most - 1
	for _, x := range []struct{ a, b, want []uint64 }{
		{[]uint64{6}, []uint64{7}, []uint64{42}},
		{[]uint64{most}, []uint64{most}, []uint64{1, most - 1}},
		{[]uint64{1, 2}, []uint64{0, 0, 3}, []uint64{0, 0, 3, 6}},
		{nil, nil, nil},
		{[]uint64{5}, nil, nil},
		{[]uint64{0, 0}, []uint64{5}, nil},
		{[]uint64{2, 0}, []uint64{3, 0, 0}, []uint64{6}},
		{full(half), []uint64{1}, full(half)},
		{power(half - 1), power(half - 1), power(2*half - 2)},
		{full(half), full(half), square},
	} {
		if got := Mul(x.a, x.b); !slices.Equal(got, x.want) {
			t.Errorf("Mul(%x, %x): %x, not %x", x.a, x.b, got, x.want)
		}
	}
	pairs(half, func(a, b []uint64) {
		is(t, "Mul", Mul(a, b), new(big.Int).Mul(bigOf(a), bigOf(b)))
	})
}

// P1.1: Rest.

func TestRestIsWhatIsLeft(t *testing.T) {
	for _, x := range []struct{ a, m, want []uint64 }{
		{[]uint64{7}, []uint64{4}, []uint64{3}},
		{[]uint64{8}, []uint64{4}, nil},
		{[]uint64{3}, []uint64{4}, []uint64{3}},
		{[]uint64{3, 0, 0}, []uint64{4, 0}, []uint64{3}},
		{nil, []uint64{4}, nil},
		{[]uint64{0, 0}, []uint64{4}, nil},
		{[]uint64{9, 9}, []uint64{1}, nil},
		{[]uint64{5, 6}, []uint64{0, 1}, []uint64{5}},
		{[]uint64{5, 6, 0}, []uint64{0, 7}, []uint64{5, 6}},
		{full(api.MaxLimbs), []uint64{2}, []uint64{1}},
		{full(api.MaxLimbs), full(api.MaxLimbs), nil},
		{full(api.MaxLimbs - 1), full(api.MaxLimbs), full(api.MaxLimbs - 1)},
		{full(api.MaxLimbs), power(api.MaxLimbs - 1), full(api.MaxLimbs - 1)},
	} {
		if got, e := Rest(x.a, x.m); !slices.Equal(got, x.want) || e != api.OK {
			t.Errorf("Rest(%x, %x): %x, error %d, not %x", x.a, x.m, got, e, x.want)
		}
	}
	pairs(api.MaxLimbs, func(a, m []uint64) {
		got, e := Rest(a, m)
		if bigOf(m).Sign() == 0 {
			refused(t, "Rest by 0", got, e, api.ErrZero)
			return
		}
		is(t, "Rest", got, new(big.Int).Mod(bigOf(a), bigOf(m)))
		if e != api.OK {
			t.Errorf("Rest(%x, %x): error %d", a, m, e)
		}
	})
}

func TestRestRefusesNought(t *testing.T) {
	for _, a := range edges(api.MaxLimbs) {
		for _, m := range [][]uint64{nil, {}, {0}, make([]uint64, api.MaxLimbs)} {
			got, e := Rest(a, m)
			refused(t, "Rest by 0", got, e, api.ErrZero)
		}
	}
}

// What follows of P1.1, said by the package's own calls.

func TestLimbsMakeARing(t *testing.T) {
	m := mixer(1)
	for range 500 {
		a, b, c := m.number(6), m.number(6), m.number(6)
		laws := []struct {
			name        string
			left, right []uint64
		}{
			{"sums turned round", Add(a, b), Add(b, a)},
			{"sums of sums", Add(Add(a, b), c), Add(a, Add(b, c))},
			{"nothing added", Add(a, nil), Add([]uint64{0}, a)},
			{"products turned round", Mul(a, b), Mul(b, a)},
			{"products of products", Mul(Mul(a, b), c), Mul(a, Mul(b, c))},
			{"once", Mul(a, []uint64{1}), Add(a, nil)},
			{"products of sums", Mul(a, Add(b, c)), Add(Mul(a, b), Mul(a, c))},
		}
		for _, l := range laws {
			if !slices.Equal(l.left, l.right) {
				t.Errorf("%s of %x, %x, %x: %x, %x", l.name, a, b, c, l.left, l.right)
			}
		}
		if d, e := Sub(Add(a, b), b); Compare(d, a) != 0 || e != api.OK {
			t.Errorf("%x + %x - the second: %x, error %d", a, b, d, e)
		}
	}
}

func TestRestIsBelowAndLeavesSome(t *testing.T) {
	m := mixer(2)
	for range 500 {
		by := append(m.number(5), 1+m.next()>>1)
		k, r := m.number(6), m.number(5)
		// r is below by, as it has fewer limbs: it must come back.
		if got, e := Rest(Add(Mul(k, by), r), by); Compare(got, r) != 0 || e != api.OK {
			t.Errorf("%x times %x and %x: %x, error %d", k, by, r, got, e)
		}
		a := m.number(12)
		got, e := Rest(a, by)
		if Compare(got, by) >= 0 || e != api.OK {
			t.Fatalf("Rest(%x, %x): %x, error %d: not below", a, by, got, e)
		}
		less, e := Sub(a, got)
		if e != api.OK {
			t.Fatalf("Rest(%x, %x): %x: above a", a, by, got)
		}
		if again, e := Rest(less, by); len(again) != 0 || e != api.OK {
			t.Errorf("Rest(%x, %x): %x: %x is left then", a, by, got, again)
		}
	}
}
