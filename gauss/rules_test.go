package gauss

import (
	"testing"

	"intaglio/api"
)

// R3 and R4: nothing that is handed in is changed or kept, and a call answers
// the same again, whatever was asked between.

func TestTurnLeavesItsListAsItWas(t *testing.T) {
	m := mixer(10)
	for range 1000 {
		want := numbers(m.four())
		l := want
		for _, back := range []bool{false, true} {
			first := Turn(l, back)
			for j := range l {
				if !same(l[j], want[j]) {
					t.Errorf("what was handed in has changed: %v", l)
				}
			}
			kept := first
			clear(l[:])
			clear(first[:])
			l = want
			again := Turn(l, back)
			for k := range again {
				if !same(again[k], kept[k]) {
					t.Errorf("Turn of %v: %v, then %v", want, kept, again)
				}
			}
		}
	}
}

func TestCallsAnswerTheSameAgain(t *testing.T) {
	m := mixer(11)
	for range 1000 {
		a, b := m.pair().number(), m.pair().number()
		sum, product, other, norm, g := Add(a, b), Mul(a, b), Conj(a), Norm(a), Gcd(a, b)
		q, rest, e := Div(a, b)
		x, y, f := Two(13)
		Gcd(m.pair().number(), 0)
		Div(m.pair().number(), 0)
		Two(999961)
		if !same(Add(a, b), sum) || !same(Mul(a, b), product) || !same(Conj(a), other) || Norm(a) != norm || !same(Gcd(a, b), g) {
			t.Errorf("%v, %v: another answer", a, b)
		}
		if p, r, n := Div(a, b); !same(p, q) || !same(r, rest) || n != e {
			t.Errorf("%v by %v: %v, %v, error %d, then %v, %v, error %d", a, b, q, rest, e, p, r, n)
		}
		if s, u, n := Two(13); s != x || u != y || n != f {
			t.Errorf("Two(13): %d, %d, error %d, then %d, %d, error %d", x, y, f, s, u, n)
		}
	}
}

// R1: of what is no whole complex number calls still end, and none panics; R2
// still holds.
func TestOthersStillEnd(t *testing.T) {
	list := strange()
	for _, a := range edges()[:40] {
		list = append(list, a.number())
	}
	for _, a := range list {
		Norm(a)
		Conj(a)
		for _, b := range list {
			Add(a, b)
			Mul(a, b)
			Gcd(a, b)
			if q, rest, e := Div(a, b); e != api.OK && (!same(q, 0) || !same(rest, 0)) {
				t.Errorf("%v by %v: %v, %v, error %d", a, b, q, rest, e)
			}
			Turn([4]complex128{a, b, b, a}, false)
			Turn([4]complex128{b, a, 1i, b}, true)
		}
	}
}

func TestDivByANoughtBelow0(t *testing.T) {
	for _, b := range []complex128{complex(minus, 0), complex(0, minus), complex(minus, minus)} {
		for _, a := range append(strange(), 3, 0) {
			if q, rest, e := Div(a, b); !same(q, 0) || !same(rest, 0) || e != api.ErrZero {
				t.Errorf("%v by %v: %v, %v, error %d", a, b, q, rest, e)
			}
		}
	}
}
