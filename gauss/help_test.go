package gauss

import (
	"math"
	"testing"
)

// minus is a nought below 0.
var minus = math.Copysign(0, -1)

// pair is a complex number in ints: the tests work answers out by these, not
// by complex128.
type pair struct{ x, y int }

func (p pair) number() complex128 { return complex(float64(p.x), float64(p.y)) }

func (p pair) plus(q pair) pair  { return pair{p.x + q.x, p.y + q.y} }
func (p pair) less(q pair) pair  { return pair{p.x - q.x, p.y - q.y} }
func (p pair) times(q pair) pair { return pair{p.x*q.x - p.y*q.y, p.x*q.y + p.y*q.x} }
func (p pair) norm() int         { return p.x*p.x + p.y*p.y }

// round tells i^k p, also of a k below 0.
func (p pair) round(k int) pair {
	for range k & 3 {
		p = pair{-p.y, p.x}
	}
	return p
}

// divides tells whether some q p is a.
func (p pair) divides(a pair) bool {
	n := p.norm()
	if n == 0 {
		return a == pair{}
	}
	top := a.times(pair{p.x, -p.y})
	return top.x%n == 0 && top.y%n == 0
}

// stands tells whether p is the one of its four turns that Gcd tells.
func (p pair) stands() bool { return p.x > 0 && p.y >= 0 }

// pairOf reads z, and fails if a part is -0 or not whole.
func pairOf(t *testing.T, what string, z complex128) pair {
	t.Helper()
	p := pair{int(real(z)), int(imag(z))}
	if !same(z, p.number()) {
		t.Errorf("%s: %v has a part that is -0 or not whole", what, z)
	}
	return p
}

// same holds the bits of two numbers against each other: -0 is not 0 here.
func same(z, w complex128) bool {
	return sameFloat(real(z), real(w)) && sameFloat(imag(z), imag(w))
}

func sameFloat(x, y float64) bool { return math.Float64bits(x) == math.Float64bits(y) }

// is fails unless got is want to the bit.
func is(t *testing.T, what string, got complex128, want pair) {
	t.Helper()
	if !same(got, want.number()) {
		t.Errorf("%s: %v, not %v", what, got, want.number())
	}
}

// mixer makes the same numbers in each run.
type mixer uint64

func (m *mixer) next() uint64 {
	*m += 0x9e3779b97f4a7c15
	x := uint64(*m)
	x = (x ^ x>>30) * 0xbf58476d1ce4e5b9
	x = (x ^ x>>27) * 0x94d049bb133111eb
	return x ^ x>>31
}

// within tells a whole number from -end to end.
func (m *mixer) within(end int) int {
	return int(m.next()%uint64(2*end+1)) - end
}

// pair tells one whose parts are of all lengths up to 2^20.
func (m *mixer) pair() pair {
	return pair{m.within(1 << (m.next() % 21)), m.within(1 << (m.next() % 21))}
}

// parts are the edges of a part.
func parts() []int {
	return []int{0, 1, -1, 2, -2, 3, 1000, -1001, 1<<19 - 1, 1 << 19, -1 << 19, 1<<20 - 1, -1<<20 + 1, 1 << 20, -1 << 20}
}

// edges are all numbers whose parts are edges.
func edges() []pair {
	var out []pair
	for _, x := range parts() {
		for _, y := range parts() {
			out = append(out, pair{x, y})
		}
	}
	return out
}

// square are all numbers whose parts are from -end to end.
func square(end int) []pair {
	var out []pair
	for x := -end; x <= end; x++ {
		for y := -end; y <= end; y++ {
			out = append(out, pair{x, y})
		}
	}
	return out
}

// pairs calls do with all pairs of edges and with many mixed ones.
func pairs(do func(a, b pair)) {
	for _, a := range edges() {
		for _, b := range edges() {
			do(a, b)
		}
	}
	m := mixer(1)
	for range 50000 {
		do(m.pair(), m.pair())
	}
}

// strange are no whole complex numbers.
func strange() []complex128 {
	odd := []float64{
		0.5, -0.5, 1.5, 1<<20 + 1, -1<<20 - 1, 1<<20 + 0.5, 1<<20 - 0.5, 1 << 31, 1 << 53, -1 << 63, 1 << 63, 1e200, -1e308,
		math.MaxFloat64, math.SmallestNonzeroFloat64, -math.SmallestNonzeroFloat64, 1e-200, math.Inf(1), math.Inf(-1), math.NaN(), minus,
	}
	var out []complex128
	for _, x := range odd {
		out = append(out, complex(x, 0), complex(0, x), complex(x, 1), complex(-3, x), complex(x, x), complex(x, -x))
	}
	return append(out, complex(1e200, math.NaN()), complex(math.Inf(1), math.NaN()), complex(minus, math.Inf(-1)))
}
