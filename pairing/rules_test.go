package pairing

import (
	"slices"
	"testing"

	"intaglio/api"
	"intaglio/g1"
	"intaglio/g2"
)

// R3 and R4: nothing that is handed in is changed or kept, and a call answers
// the same again, whatever was asked in between.

func TestListsAreLeftAsTheyWere(t *testing.T) {
	t.Parallel()
	mark := pairOf(5, 7)
	for n := range 3 {
		l := pairs(mixer(70+n), n+2)
		room := append(slices.Clone(l), mark, mark)
		handed := room[:len(l)]
		checks(t, "at first", handed, true)
		if !slices.Equal(room, append(slices.Clone(l), mark, mark)) {
			t.Errorf("what was handed in has changed: %v", room)
		}
		for i := range room {
			room[i] = mark
		}
		checks(t, "another list in the same memory", handed, false)
		checks(t, "the same list again", l, true)
	}
}

func TestAnswersAreTheSameAgain(t *testing.T) {
	t.Parallel()
	m := mixer(71)
	p, q := m.inside1(), m.inside2()
	e := Of(p, q)
	for _, x := range []api.Pair{pairOf(1, 1), {P: inf1, Q: inf2}, {}, {P: outside1()[0], Q: outside2()[0]}} {
		first, check := Of(x.P, x.Q), Check([]api.Pair{x})
		if Of(p, q) != e || Of(x.P, x.Q) != first || Check([]api.Pair{x}) != check {
			t.Errorf("of %v another answer", x)
		}
	}
}

func TestAnswersAreNewEachTime(t *testing.T) {
	t.Parallel()
	first := Of(inf1, inf2)
	first[0][0][0][0], first[1][2][1][5] = 9, 9
	if got := Of(inf1, inf2); got != one {
		t.Errorf("Of Inf: %x", got)
	}
}

// R1: of what is not In, and beyond the limits, calls still end, and none
// panics.

func TestAllOddPoints(t *testing.T) {
	t.Parallel()
	for _, p := range odd1() {
		for _, q := range odd2() {
			Of(p, q)
			Check([]api.Pair{{P: p, Q: q}, {P: g1.One(), Q: g2.One()}, {P: p, Q: q}})
		}
	}
}

func TestBeyondTheLimits(t *testing.T) {
	t.Parallel()
	for _, n := range []int{21, 50} {
		Check(slices.Repeat([]api.Pair{pairOf(1, 1)}, n))
		Check(slices.Repeat([]api.Pair{{P: inf1, Q: inf2}}, 10*n))
		Check(make([]api.Pair, 1000*n))
	}
}
