package limb

import (
	"math"
	"testing"

	"intaglio/api"
)

// R3 and R4: nothing that is handed in is changed or kept, what is told is new
// memory, and a call answers the same again.

func TestSumsLeaveWhatTheyAreHanded(t *testing.T) {
	n := api.MaxLimbs
	for _, l := range [][][]uint64{
		{nil, nil},
		{{}, {0}},
		{{7}, {4}},
		{{3}, {4}},
		{{3, 0, 0}, {4, 0}},
		{{9, 9}, {0, 0}},
		{{5}, nil},
		{nil, {5}},
		{full(n), {1}},
		{{1}, full(n)},
		{full(n), full(n)},
		{power(n - 1), {1, 0, 0}},
		{full(n / 2), full(n / 2)},
	} {
		untouched(t, "Compare", l, func(l [][]uint64) []uint64 { return []uint64{uint64(Compare(l[0], l[1]))} })
		untouched(t, "Add", l, func(l [][]uint64) []uint64 { return Add(l[0], l[1]) })
		untouched(t, "Sub", l, func(l [][]uint64) []uint64 { d, _ := Sub(l[0], l[1]); return d })
		untouched(t, "Mul", l, func(l [][]uint64) []uint64 { return Mul(l[0], l[1]) })
		untouched(t, "Rest", l, func(l [][]uint64) []uint64 { r, _ := Rest(l[0], l[1]); return r })
		for _, k := range []int{-1, 0, 1, 8, 8 * n, 8*n + 1} {
			untouched(t, "Put", l[:1], func(l [][]uint64) []byte { b, _ := Put(l[0], k); return b })
		}
	}
}

func TestTakeLeavesWhatItIsHanded(t *testing.T) {
	for _, b := range [][]byte{nil, {}, {0}, {1}, {0, 1}, make([]byte, 8), {1, 2, 3, 4, 5, 6, 7, 8, 9}, make([]byte, mostBytes)} {
		untouched(t, "Take", [][]byte{b}, func(l [][]byte) []uint64 { return Take(l[0]) })
	}
}

func TestOneListForBoth(t *testing.T) {
	a := []uint64{most, most, 3, 0}
	if Compare(a, a) != 0 {
		t.Error("Compare with itself")
	}
	if got := Add(a, a); Compare(got, Mul(a, []uint64{2})) != 0 {
		t.Errorf("twice: %x", got)
	}
	if got, e := Sub(a, a); len(got) != 0 || e != api.OK {
		t.Errorf("less itself: %x, error %d", got, e)
	}
	if got, e := Rest(a, a); len(got) != 0 || e != api.OK {
		t.Errorf("by itself: %x, error %d", got, e)
	}
}

// R1: beyond the limits calls still end, and none panics.

func TestBeyondTheLimits(t *testing.T) {
	long := [][]uint64{nil, {0}, {3}, make([]uint64, 300), full(api.MaxLimbs + 1), power(200), full(200)}
	for _, a := range long {
		for _, b := range long {
			Compare(a, b)
			Add(a, b)
			Sub(a, b)
			Mul(a, b)
			Rest(a, b)
		}
		for _, n := range []int{math.MinInt, -1, 0, 1, mostBytes, mostBytes + 1, math.MaxInt} {
			Put(a, n)
		}
	}
	Take(make([]byte, 5000))
	Take([]byte{5000: 1})
}

// Noughts on top do not count, so a long list may still be a small number.
func TestNoughtsOnTopDoNotCount(t *testing.T) {
	pad := func(a ...uint64) []uint64 { return append(a, make([]uint64, 3*api.MaxLimbs)...) }
	seven, four := pad(7), pad(4)
	if Compare(seven, four) != 1 || Compare(seven, []uint64{7}) != 0 {
		t.Error("Compare")
	}
	sum := Add(seven, four)
	diff, e1 := Sub(seven, four)
	product := Mul(seven, four)
	rest, e2 := Rest(seven, four)
	for i, got := range [][]uint64{sum, diff, product, rest} {
		if want := []uint64{11, 3, 28, 3}[i]; len(got) != 1 || got[0] != want {
			t.Errorf("%x, not %x", got, want)
		}
	}
	if e1 != api.OK || e2 != api.OK {
		t.Errorf("errors %d, %d", e1, e2)
	}
	if b, e := Put(seven, 1); len(b) != 1 || b[0] != 7 || e != api.OK {
		t.Errorf("Put: %x, error %d", b, e)
	}
}
