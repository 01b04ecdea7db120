package ntt

import (
	"math/big"
	"slices"
	"testing"

	"intaglio/api"
	"intaglio/fr"
	"intaglio/gauss"
)

// P14.1: Go, Back.

func TestGoAndBack(t *testing.T) {
	for log := range mostLog + 1 {
		t.Run("", func(t *testing.T) {
			t.Parallel()
			m := mixer(log)
			n := 1 << log
			part := inverse(big.NewInt(int64(n)))
			for _, a := range m.lists(n) {
				want := sums(a, log, 1)
				got, e := Go(a)
				is(t, "Go", got, e, want)
				back, e := Back(want)
				is(t, "Back of Go", back, e, a)
				back, e = Back(a)
				is(t, "Back", back, e, times(sums(a, log, -1), part))
				got, e = Go(back)
				is(t, "Go of Back", got, e, a)
			}
		})
	}
}

// Of one number alone, at each place: its root's powers.
func TestOfOneAlone(t *testing.T) {
	for log := range mostLog + 1 {
		t.Run("", func(t *testing.T) {
			t.Parallel()
			n := 1 << log
			m := mixer(20 + log)
			x := m.scalar()
			at := times(risen(slices.Repeat([]api.Fr{small(1)}, n), root(log)), number(x))
			for j := range n {
				a, want := make([]api.Fr, n), make([]api.Fr, n)
				a[j] = x
				for k := range want {
					want[k] = at[j*k%n]
				}
				got, e := Go(a)
				is(t, "Go of one alone", got, e, want)
				got, e = Back(want)
				is(t, "Back to one alone", got, e, a)
			}
		})
	}
}

// Reckoned ahead, by another program.
func TestSomeByTheirTexts(t *testing.T) {
	rising := smalls(1, 2, 3, 4, 5, 6, 7, 8)
	got, e := Go(rising)
	is(t, "Go", got, e, texts(
		"24", "3d9c9167f96a9b25495c51a9576083ab432e241ab8def899b6781127e7c9c15f",
		"73eda753299d7d45fdf2a4ce3195c4c1a3b1a3f927f25bfefffbfffefffffffd", "3d9c9167f96a9b29b3eab81d0778aa32a346242e68f6f899b6801127e7c9c15f",
		"73eda753299d7d483339d80809a1d80553bda402fffe5bfefffffffefffffffd", "365115eb3032e21e7f4f1feb02292dd2b0777fd497076365497feed718363e9a",
		"235473339d80c1343b00c0009d80c00000003fffffffffffc", "365115eb3032e222e9dd865eb241545a108f7fe8471f63654987eed718363e9a"))
	got, e = Back(rising)
	is(t, "Back", got, e, texts(
		"39f6d3a994cebea4199cec0404d0ec02a9ded2017fff2dff7fffffff80000005", "5dbc603bc53c7a3a83a712d1dd818c8f40e02aff48e2b16be930fdda2306c7d4",
		"39f6d3a994cebea46045d26b3fd26e6b1fe05202bb00adff80007fff80000000", "5dbc603bc53c7a39f6554603677e87be54dd2afcd2dfb16be92ffdda2306c7d4",
		"39f6d3a994cebea4199cec0404d0ec02a9ded2017fff2dff7fffffff80000000", "163147176461030e3ce49204a2235046fee079062d1eaa9316d00224dcf9382c",
		"39f6d3a994cebea3d2f4059cc9cf699a33dd520044fdadff7fff7fff80000000", "163147176461030daf92c5362c204b7612dd7903b71baa9316cf0224dcf9382c"))
	got, e = Go(smalls(1, 2))
	is(t, "Go", got, e, smalls(3, -1))
	got, e = Back(smalls(3, -1))
	is(t, "Back", got, e, smalls(1, 2))
	cubes := make([]api.Fr, 512)
	for i := range cubes {
		cubes[i] = small(int64(i*i*i + 5))
	}
	got, _ = Go(cubes)
	if len(got) != 512 {
		t.Fatalf("Go of 512: %d numbers", len(got))
	}
	is(t, "Go", []api.Fr{got[1], got[100], got[511]}, api.OK, texts(
		"43f41c60e0ff35a82cb47947212f2c3bd4b00bf6b77e234e7e74b422647cd47b",
		"4a57d078c397a76f3c66f126cbd97f43887860c5a7cf0f92d76feb9ed1ae13e1",
		"0feac05729dc1633b75885927ecf08fdff5baa827954a5573f0a18d4d1ac9c35"))
}

// The example: Go of one number is it.
func TestOfOneNumber(t *testing.T) {
	for _, x := range edges {
		for what, do := range map[string]func([]api.Fr) ([]api.Fr, api.Errno){"Go": Go, "Back": Back} {
			got, e := do([]api.Fr{x})
			is(t, what, got, e, []api.Fr{x})
		}
		for _, by := range edges {
			got, e := Coset([]api.Fr{x}, by)
			is(t, "Coset", got, e, []api.Fr{x})
			if by != (api.Fr{}) {
				got, e = Uncoset([]api.Fr{x}, by)
				is(t, "Uncoset", got, e, []api.Fr{x})
			}
		}
	}
}

// P14.1 and P14.2: other lengths, also ahead of a by that is 0.
func TestOtherLengths(t *testing.T) {
	lengths := []int{1024, 2048, 4096, 1 << 15, 1 << 16, 1 << 20, 511 * 513}
	for n := range 1030 {
		if n == 0 || n&(n-1) != 0 {
			lengths = append(lengths, n)
		}
	}
	for _, n := range lengths {
		a := make([]api.Fr, n)
		for j := range a {
			a[j] = small(3)
		}
		got, e := Go(a)
		refused(t, "Go", got, e, api.ErrArg)
		got, e = Back(a)
		refused(t, "Back", got, e, api.ErrArg)
		for _, by := range []api.Fr{{}, {1}, {7}} {
			got, e = Coset(a, by)
			refused(t, "Coset", got, e, api.ErrArg)
			got, e = Uncoset(a, by)
			refused(t, "Uncoset", got, e, api.ErrArg)
		}
	}
}

// P14.1: Four.

func isFour(t *testing.T, what string, got [4]api.Fr, want []api.Fr) {
	t.Helper()
	is(t, what, got[:], api.OK, want)
}

func TestFour(t *testing.T) {
	m := mixer(40)
	for range 2000 {
		a := [4]api.Fr(m.list(4))
		isFour(t, "Four", Four(a, false), sums(a[:], 2, 1))
		isFour(t, "Four back", Four(a, true), sums(a[:], 2, -1))
		got, _ := Go(a[:])
		isFour(t, "Four and Go", Four(a, false), got)
		got, _ = Back(a[:])
		isFour(t, "Four back and Back", Four(a, true), times(got, big.NewInt(4)))
		want := times(a[:], big.NewInt(4))
		isFour(t, "Four, and back", Four(Four(a, false), true), want)
		isFour(t, "back, and Four", Four(Four(a, true), false), want)
	}
}

func TestFourOfOneAlone(t *testing.T) {
	i := root(2)
	for j := range 4 {
		for _, x := range edges {
			var a [4]api.Fr
			a[j] = x
			var want, back []api.Fr
			for k := range 4 {
				turned := new(big.Int).Exp(i, big.NewInt(int64(j*k)), modulus)
				want = append(want, times([]api.Fr{x}, turned)...)
				back = append(back, times([]api.Fr{x}, inverse(turned))...)
			}
			isFour(t, "Four", Four(a, false), want)
			isFour(t, "Four back", Four(a, true), back)
		}
	}
}

// read is a whole complex number with a root in the place of i.
func read(z complex128) api.Fr {
	im := new(big.Int).Mul(root(2), big.NewInt(int64(imag(z))))
	return scalar(im.Add(im, big.NewInt(int64(real(z)))))
}

// Ways: as gauss.Turn has them, with a root in the place of i.
func TestFourIsTurn(t *testing.T) {
	m := mixer(41)
	part := func() float64 { return float64(int64(m.next()%(1<<21+1)) - 1<<20) }
	for range 500 {
		var l [4]complex128
		var a [4]api.Fr
		for j := range l {
			l[j] = complex(part(), part())
			a[j] = read(l[j])
		}
		for _, back := range []bool{false, true} {
			var want []api.Fr
			for _, z := range gauss.Turn(l, back) {
				want = append(want, read(z))
			}
			isFour(t, "Four of what Turn has", Four(a, back), want)
		}
	}
}

// P14.2: Coset, Uncoset.

func TestCosetAndUncoset(t *testing.T) {
	for log := range mostLog + 1 {
		t.Run("", func(t *testing.T) {
			t.Parallel()
			m := mixer(60 + log)
			a := m.list(1 << log)
			bys := []api.Fr{{7}, m.scalar(), scalar(root(log)), small(-1)}
			if log < 6 {
				bys = append(bys, edges...)
			}
			for _, by := range bys {
				want := sums(risen(a, number(by)), log, 1)
				got, e := Coset(a, by)
				is(t, "Coset", got, e, want)
				if by != (api.Fr{}) {
					got, e = Uncoset(want, by)
					is(t, "Uncoset", got, e, a)
					b, e := Uncoset(a, by)
					got, f := Coset(b, by)
					is(t, "Coset of Uncoset", got, e|f, a)
				}
			}
		})
	}
}

func TestCosetsByTheirTexts(t *testing.T) {
	a := smalls(3, 1, 4, 1)
	got, e := Coset(a, small(7))
	is(t, "Coset", got, e, texts(
		"225", "73eda753299d7c8eb7dd090d25ab85cf8fcda0c81c0e5bfefeaffffeffffff40",
		"73eda753299d7d483339d80809a1d80553bda402fffe5bfefffffffeffffff6a", "b97b5ccefae3f65235c3f0033ae3f00000014fffffffffff3f"))
	got, e = Uncoset(a, small(-2))
	is(t, "Uncoset", got, e, texts(
		"56f23d7e5f361df6266b620607396203fece3b023ffec4ff3fffffff40000003", "656ff268c469cd9f2cd29d07086d9d04a945ef829ffe907f1fffffff20000001",
		"4fb363092c9c4621a337c485869f4483a99260c20ffedf3f4fffffff50000001", "704e3a189050915df1a00947c954c945291fb6e2e7fe691f07ffffff08000001"))
}

// By 0 there is one value, the lowest number; none comes back.
func TestBy0(t *testing.T) {
	m := mixer(80)
	for log := range mostLog + 1 {
		n := 1 << log
		a := m.list(n)
		got, e := Coset(a, api.Fr{})
		is(t, "Coset by 0", got, e, slices.Repeat(a[:1], n))
		got, e = Uncoset(a, api.Fr{})
		refused(t, "Uncoset by 0", got, e, api.ErrZero)
		got, e = Uncoset(make([]api.Fr, n), api.Fr{})
		refused(t, "Uncoset of noughts by 0", got, e, api.ErrZero)
	}
}

func TestBy1(t *testing.T) {
	m := mixer(81)
	for log := range mostLog + 1 {
		a := m.list(1 << log)
		want, _ := Go(a)
		got, e := Coset(a, small(1))
		is(t, "Coset by 1", got, e, want)
		want, _ = Back(a)
		got, e = Uncoset(a, small(1))
		is(t, "Uncoset by 1", got, e, want)
	}
}

// What follows.

func TestGoIsEvaluation(t *testing.T) {
	m := mixer(82)
	for log := range mostLog + 1 {
		n := 1 << log
		a, by := m.list(n), m.scalar()
		got, _ := Go(a)
		other, _ := Coset(a, by)
		w, _ := fr.Root(log)
		at := fr.Of(1)
		for k := range n {
			var x, y api.Fr
			for _, c := range slices.Backward(a) {
				x = fr.Add(fr.Mul(x, at), c)
				y = fr.Add(fr.Mul(y, fr.Mul(by, at)), c)
			}
			if got[k] != x || other[k] != y {
				t.Errorf("of %d, at w^%d: %x, not %x; by by %x, not %x", n, k, got[k], x, other[k], y)
			}
			at = fr.Mul(at, w)
		}
	}
}

func TestGoOfAProduct(t *testing.T) {
	m := mixer(83)
	for log := range mostLog + 1 {
		n := 1 << log
		a, b, product := m.list(n), m.list(n), make([]api.Fr, n)
		for i, x := range a {
			for j, y := range b {
				at := &product[(i+j)%n]
				*at = fr.Add(*at, fr.Mul(x, y))
			}
		}
		l, _ := Go(a)
		r, _ := Go(b)
		want := make([]api.Fr, n)
		for k := range want {
			want[k] = fr.Mul(l[k], r[k])
		}
		got, e := Go(product)
		is(t, "Go of a product", got, e, want)
		got, e = Back(want)
		is(t, "Back to a product", got, e, product)
	}
}
