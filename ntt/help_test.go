package ntt

import (
	"math"
	"math/big"
	"slices"
	"testing"

	"intaglio/api"
)

const most = uint64(math.MaxUint64)

// modulus reads R as the document writes it.
var modulus, _ = new(big.Int).SetString("73eda753299d7d483339d80809a1d80553bda402fffe5bfeffffffff00000001", 16)

// number is a scalar as a great number.
func number(a api.Fr) *big.Int {
	out := new(big.Int)
	for _, x := range slices.Backward(a[:]) {
		out.Lsh(out, 64).Or(out, new(big.Int).SetUint64(x))
	}
	return out
}

// scalar is n modulo R, also of an n below 0.
func scalar(n *big.Int) api.Fr {
	rest := new(big.Int).Mod(n, modulus)
	var out api.Fr
	for i := range out {
		x := new(big.Int).Rsh(rest, uint(64*i))
		out[i] = x.And(x, new(big.Int).SetUint64(most)).Uint64()
	}
	return out
}

// small is n modulo R.
func small(n int64) api.Fr {
	return scalar(big.NewInt(n))
}

// text is the scalar that is written so.
func text(hex string) api.Fr {
	n, _ := new(big.Int).SetString(hex, 16)
	return scalar(n)
}

func texts(hex ...string) []api.Fr {
	var out []api.Fr
	for _, h := range hex {
		out = append(out, text(h))
	}
	return out
}

func smalls(ns ...int64) []api.Fr {
	var out []api.Fr
	for _, n := range ns {
		out = append(out, small(n))
	}
	return out
}

// root is 7^((R - 1) / 2^log), out of the document's words.
func root(log int) *big.Int {
	e := new(big.Int).Sub(modulus, big.NewInt(1))
	return e.Exp(big.NewInt(7), e.Rsh(e, uint(log)), modulus)
}

// powers are n powers of a, from a^0 on.
func powers(a *big.Int, n int) []*big.Int {
	out := []*big.Int{big.NewInt(1)}
	for len(out) < n {
		next := new(big.Int).Mul(out[len(out)-1], a)
		out = append(out, next.Mod(next, modulus))
	}
	return out[:n]
}

// sums are as the document writes them: the k-th is the sum of the
// a[j] w^(j k), w of the order 2^log, or (turn -1) its inverse.
func sums(a []api.Fr, log, turn int) []api.Fr {
	n := 1 << log
	at := powers(root(log), n)
	ins := make([]*big.Int, len(a))
	for j, x := range a {
		ins[j] = number(x)
	}
	out := make([]api.Fr, n)
	for k := range out {
		sum, one := new(big.Int), new(big.Int)
		for j, x := range ins {
			sum.Add(sum, one.Mul(x, at[turn*j*k&(n-1)]))
		}
		out[k] = scalar(sum)
	}
	return out
}

// times are the a[j] k.
func times(a []api.Fr, k *big.Int) []api.Fr {
	out := make([]api.Fr, len(a))
	for j, x := range a {
		out[j] = scalar(new(big.Int).Mul(number(x), k))
	}
	return out
}

// risen are the a[j] by^j.
func risen(a []api.Fr, by *big.Int) []api.Fr {
	out := make([]api.Fr, len(a))
	for j, p := range powers(by, len(a)) {
		out[j] = scalar(p.Mul(p, number(a[j])))
	}
	return out
}

// inverse is 1 / a.
func inverse(a *big.Int) *big.Int {
	return new(big.Int).ModInverse(a, modulus)
}

// mixer makes the same numbers in each run.
type mixer uint64

func (m *mixer) next() uint64 {
	*m += 0x9e3779b97f4a7c15
	x := uint64(*m)
	x = (x ^ x>>30) * 0xbf58476d1ce4e5b9
	x = (x ^ x>>27) * 0x94d049bb133111eb
	return x ^ x>>31
}

// edges are scalars at both ends, in the middle, and at the seams of limbs.
var edges = []api.Fr{
	{}, {1}, {2}, {7}, small(-1), small(-2), small(-7), {most}, {0, 1}, {most, most, most}, {0, 0, 0, 1},
	scalar(new(big.Int).Rsh(modulus, 1)), scalar(root(2)), scalar(root(9)), scalar(root(32)),
}

// scalar is a mixed one, or at times an edge.
func (m *mixer) scalar() api.Fr {
	if m.next()%4 == 0 {
		return edges[m.next()%uint64(len(edges))]
	}
	return api.Fr{m.next(), m.next(), m.next(), m.next() % 0x73eda753299d7d48}
}

func (m *mixer) list(n int) []api.Fr {
	out := make([]api.Fr, n)
	for j := range out {
		out[j] = m.scalar()
	}
	return out
}

// lists are of n numbers: mixed ones, all at one end, a few at their places.
func (m *mixer) lists(n int) [][]api.Fr {
	last, first := make([]api.Fr, n), make([]api.Fr, n)
	last[n-1], first[0] = small(-5), m.scalar()
	rising := make([]api.Fr, n)
	for j := range rising {
		rising[j] = small(int64(j) + 1)
	}
	return [][]api.Fr{
		m.list(n), m.list(n), make([]api.Fr, n), last, first, rising,
		slices.Repeat([]api.Fr{small(1)}, n), slices.Repeat([]api.Fr{small(-1)}, n),
	}
}

// is holds an answer against what it should be; no error.
func is(t *testing.T, what string, got []api.Fr, e api.Errno, want []api.Fr) {
	t.Helper()
	if e != api.OK || len(got) != len(want) {
		t.Errorf("%s: error %d, %d numbers, not %d", what, e, len(got), len(want))
		return
	}
	for k := range got {
		if got[k] != want[k] {
			t.Errorf("%s of %d: number %d is %x, not %x", what, len(want), k, got[k], want[k])
			return
		}
	}
}

// refused fails if e is another error, or an answer stands beside it.
func refused(t *testing.T, what string, got []api.Fr, e, want api.Errno) {
	t.Helper()
	if len(got) != 0 || e != want {
		t.Errorf("%s: %d numbers, error %d, not %d", what, len(got), e, want)
	}
}
