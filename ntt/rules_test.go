package ntt

import (
	"slices"
	"sync"
	"testing"

	"intaglio/api"
)

// calls are all that take a list, by 7 and by 0.
func calls() map[string]func([]api.Fr) ([]api.Fr, api.Errno) {
	return map[string]func([]api.Fr) ([]api.Fr, api.Errno){
		"Go":           Go,
		"Back":         Back,
		"Coset":        func(a []api.Fr) ([]api.Fr, api.Errno) { return Coset(a, api.Fr{7}) },
		"Coset by 0":   func(a []api.Fr) ([]api.Fr, api.Errno) { return Coset(a, api.Fr{}) },
		"Uncoset":      func(a []api.Fr) ([]api.Fr, api.Errno) { return Uncoset(a, api.Fr{7}) },
		"Uncoset by 0": func(a []api.Fr) ([]api.Fr, api.Errno) { return Uncoset(a, api.Fr{}) },
		"Four": func(a []api.Fr) ([]api.Fr, api.Errno) {
			var four [4]api.Fr
			copy(four[:], a)
			out := Four(four, true)
			return out[:], api.OK
		},
	}
}

// R3: nothing that is handed in is changed or kept, spare room too, and what is
// told is new memory. R4: the same again.
func TestListsAreLeftAsTheyWere(t *testing.T) {
	m := mixer(90)
	for _, n := range []int{0, 1, 2, 3, 4, 5, 8, 16, 32, 64, 128, 256, 512, 1024} {
		for what, do := range calls() {
			list := m.list(n)
			whole := append(slices.Clone(list), m.list(600)...)
			held := slices.Clone(whole)
			got, e := do(whole[:n])
			if !slices.Equal(whole, held) {
				t.Errorf("%s of %d: what was handed in has changed", what, n)
			}
			first := slices.Clone(got)
			clear(whole)
			if !slices.Equal(got, first) {
				t.Errorf("%s of %d: what was told has changed with what was handed in", what, n)
			}
			again, f := do(list)
			if !slices.Equal(again, first) || f != e {
				t.Errorf("%s of %d: another answer", what, n)
			}
			clear(got[:cap(got)])
			if !slices.Equal(again, first) || !slices.Equal(list, held[:n]) {
				t.Errorf("%s of %d: what was told is not new memory", what, n)
			}
		}
	}
}

func TestNilAndEmptyAreOne(t *testing.T) {
	for what, do := range calls() {
		if what == "Four" {
			continue
		}
		for _, a := range [][]api.Fr{nil, {}, make([]api.Fr, 0, 8)} {
			got, e := do(a)
			refused(t, what+" of none", got, e, api.ErrArg)
		}
	}
}

// R1: of what is no scalar calls still end, and none panics; R2 still holds.
func TestWhatIsNoScalar(t *testing.T) {
	odd := []api.Fr{
		{0xffffffff00000001, 0x53bda402fffe5bfe, 0x3339d80809a1d805, 0x73eda753299d7d48}, // R
		{0xffffffff00000002, 0x53bda402fffe5bfe, 0x3339d80809a1d805, 0x73eda753299d7d48},
		{most, most, most, most}, {0, 0, 0, 1 << 63}, {0, 0, 0, most},
	}
	for log := range mostLog + 1 {
		n := 1 << log
		for _, x := range odd {
			a := slices.Repeat([]api.Fr{x}, n)
			a[n/2] = small(5)
			for what, do := range calls() {
				if got, e := do(a); e == api.OK && what != "Four" && len(got) != n || e != api.OK && len(got) != 0 {
					t.Errorf("%s of %d: %d numbers, error %d", what, n, len(got), e)
				}
			}
			Coset(a, x)
			if got, e := Uncoset(a, x); e != api.OK && len(got) != 0 {
				t.Errorf("Uncoset of %d: %d numbers, error %d", n, len(got), e)
			}
			got, e := Uncoset(append(a, make([]api.Fr, 2*n)...), x)
			refused(t, "Uncoset of another length", got, e, api.ErrArg)
		}
	}
}

// R4: calls at one time share nothing.
func TestManyAtOnce(t *testing.T) {
	m := mixer(91)
	lists := [][]api.Fr{m.list(64), m.list(32), m.list(4), m.list(3)}
	var all sync.WaitGroup
	for what, do := range calls() {
		for _, a := range lists {
			want, e := do(a)
			for range 4 {
				all.Go(func() {
					if got, f := do(a); !slices.Equal(got, want) || f != e {
						t.Errorf("%s of %d: another answer at once", what, len(a))
					}
				})
			}
		}
	}
	all.Wait()
}
