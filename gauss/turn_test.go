package gauss

import (
	"math"
	"testing"

	"intaglio/api"
)

// four tells four edges or mixed numbers.
func (m *mixer) four() [4]pair {
	list := edges()
	var out [4]pair
	for j := range out {
		out[j] = m.pair()
		if m.next()%2 == 0 {
			out[j] = list[m.next()%uint64(len(list))]
		}
	}
	return out
}

func numbers(l [4]pair) (out [4]complex128) {
	for j, p := range l {
		out[j] = p.number()
	}
	return out
}

// turned is the sum as the document writes it; turn is 1, or back -1.
func turned(l [4]pair, turn int) (out [4]pair) {
	for k := range out {
		for j, p := range l {
			out[k] = out[k].plus(p.round(turn * j * k))
		}
	}
	return out
}

func heldAgainst(t *testing.T, what string, got [4]complex128, want [4]pair) {
	t.Helper()
	for k := range got {
		is(t, what, got[k], want[k])
	}
}

// P4.2: Turn.

func TestTurn(t *testing.T) {
	m := mixer(8)
	for range 20000 {
		l := m.four()
		heldAgainst(t, "Turn", Turn(numbers(l), false), turned(l, 1))
		heldAgainst(t, "Turn back", Turn(numbers(l), true), turned(l, -1))
	}
	heldAgainst(t, "Turn", Turn([4]complex128{1, 2i, -3, 4 + 1i}, false), [4]pair{{2, 3}, {3, -4}, {-6, -3}, {5, 4}})
	heldAgainst(t, "Turn back", Turn([4]complex128{1, 2i, -3, 4 + 1i}, true), [4]pair{{2, 3}, {5, 4}, {-6, -3}, {3, -4}})
}

func TestTurnOfOneAlone(t *testing.T) {
	for j := range 4 {
		for _, a := range edges() {
			var l [4]pair
			l[j] = a
			heldAgainst(t, "Turn", Turn(numbers(l), false), [4]pair{a, a.round(j), a.round(2 * j), a.round(3 * j)})
			heldAgainst(t, "Turn back", Turn(numbers(l), true), [4]pair{a, a.round(-j), a.round(-2 * j), a.round(-3 * j)})
		}
	}
}

// What follows. At the ends what stands between is above 2^20.
func TestTurnAndBackIsFourTimes(t *testing.T) {
	m := mixer(9)
	most := pair{1 << 20, -1 << 20}
	for k := range 20000 {
		l := m.four()
		if k == 0 {
			l = [4]pair{most, most, most, most}
		}
		var want [4]pair
		for j, p := range l {
			want[j] = pair{4 * p.x, 4 * p.y}
		}
		heldAgainst(t, "Turn, and back", Turn(Turn(numbers(l), false), true), want)
		heldAgainst(t, "back, and Turn", Turn(Turn(numbers(l), true), false), want)
	}
}

// P4.2: Two.

func TestTwo(t *testing.T) {
	for _, x := range []struct{ p, a, b int }{
		{5, 1, 2}, {13, 2, 3}, {17, 1, 4}, {29, 2, 5}, {37, 1, 6}, {41, 4, 5}, {97, 4, 9}, {101, 1, 10}, {257, 1, 16}, {65537, 1, 256},
		{995009, 628, 775}, {999917, 109, 994}, {999953, 568, 823}, {999961, 644, 765}, // the last below 1,000,000
	} {
		if a, b, e := Two(x.p); a != x.a || b != x.b || e != api.OK {
			t.Errorf("Two(%d): %d, %d, error %d, not %d, %d", x.p, a, b, e, x.a, x.b)
		}
	}
}

func TestTwoOfOthers(t *testing.T) {
	for _, p := range []int{
		2, 3, 7, 11, 19, 999983, // 2, and primes of 3 modulo 4
		9, 25, 21, 33, 45, 65, 85, 221, 561, 1105, 29 * 29, 997 * 997, 993 * 993, // 1 modulo 4, and no primes
		4, 8, 10, 26, 50, 100, // sums of two squares
		1, 0, -1, -2, -3, -5, -7, -11, -13, -17,
		1_000_000, 1_000_001, 1_000_033, 1_000_037, 1_000_081, 1 << 20, 1<<31 - 1, 1 << 32, 1<<32 + 5, 1<<61 - 1,
		math.MaxInt, math.MaxInt - 2, math.MinInt, math.MinInt + 1, math.MinInt + 5,
	} {
		if a, b, e := Two(p); a != 0 || b != 0 || e != api.ErrArg {
			t.Errorf("Two(%d): %d, %d, error %d", p, a, b, e)
		}
	}
}

// All there are, and what lies on both sides: the primes come by the sieve.
func TestTwoOfAll(t *testing.T) {
	const end = 1_000_200
	struck := make([]bool, end)
	for d := 2; d*d < end; d++ {
		for k := d * d; k < end; k += d {
			struck[k] = true
		}
	}
	held := 0
	for p := -200; p < end; p++ {
		a, b, e := Two(p)
		if p < 2 || p >= 1_000_000 || p%4 != 1 || struck[p] {
			if a != 0 || b != 0 || e != api.ErrArg {
				t.Errorf("Two(%d): %d, %d, error %d", p, a, b, e)
			}
			continue
		}
		held++
		if a <= 0 || a > b || a*a+b*b != p || e != api.OK {
			t.Errorf("Two(%d): %d, %d, error %d", p, a, b, e)
		}
	}
	if held != 39175 {
		t.Errorf("%d primes of 1 modulo 4", held)
	}
}
