package limb

import (
	"math"
	"math/big"
	"slices"
	"testing"

	"intaglio/api"
)

const most = uint64(math.MaxUint64)

// bigOf works a number out by another way than the package does: limb by limb
// from the top, with the library's great numbers.
func bigOf(a []uint64) *big.Int {
	n := new(big.Int)
	for _, x := range slices.Backward(a) {
		n.Lsh(n, 64)
		n.Or(n, new(big.Int).SetUint64(x))
	}
	return n
}

// limbsOf has as many limbs as n needs.
func limbsOf(n *big.Int) []uint64 {
	low := new(big.Int).SetUint64(most)
	rest := new(big.Int).Set(n)
	var out []uint64
	for rest.Sign() > 0 {
		out = append(out, new(big.Int).And(rest, low).Uint64())
		rest.Rsh(rest, 64)
	}
	return out
}

// full has n limbs, all bits set.
func full(n int) []uint64 {
	return slices.Repeat([]uint64{most}, n)
}

// power is 2^(64 n): a one above n noughts.
func power(n int) []uint64 {
	return append(make([]uint64, n), 1)
}

// mixer makes the same numbers in each run.
type mixer uint64

func (m *mixer) next() uint64 {
	*m += 0x9e3779b97f4a7c15
	x := uint64(*m)
	x = (x ^ x>>30) * 0xbf58476d1ce4e5b9
	x = (x ^ x>>27) * 0x94d049bb133111eb
	return x ^ x>>31
}

// number has n limbs, many of them at the edges, where carries and borrows go
// on; the top ones may be noughts.
func (m *mixer) number(n int) []uint64 {
	out := make([]uint64, n)
	for i := range out {
		switch m.next() % 8 {
		case 0, 1:
			out[i] = 0
		case 2, 3:
			out[i] = most
		case 4:
			out[i] = 1
		case 5:
			out[i] = 1 << 63
		default:
			out[i] = m.next()
		}
	}
	return out
}

// edges are numbers of at most n limbs, n at least 2, some with noughts on top.
func edges(n int) [][]uint64 {
	return [][]uint64{
		nil,
		{},
		{0},
		make([]uint64, n),
		{1},
		{1, 0, 0},
		{2},
		{most},
		{most, 0},
		{0, 1},
		{1, 1},
		{most, most},
		{1 << 63},
		{0, 1 << 63},
		full(n),
		full(n - 1),
		append(full(n-1), 0),
		power(n - 1),
		append(power(n-2), 0),
		append(make([]uint64, n-1), most),
		append(make([]uint64, n-1), 1<<63),
	}
}

// pairs calls do with all pairs of edges and with many mixed ones, of at most
// n limbs each.
func pairs(n int, do func(a, b []uint64)) {
	for _, a := range edges(n) {
		for _, b := range edges(n) {
			do(a, b)
		}
	}
	m := mixer(n)
	for range 3000 {
		do(m.number(int(m.next()%uint64(n+1))), m.number(int(m.next()%uint64(n+1))))
	}
}

// is holds an answer against what is wanted: limb by limb, without noughts on
// top.
func is(t *testing.T, what string, got []uint64, want *big.Int) {
	t.Helper()
	if !slices.Equal(got, limbsOf(want)) {
		t.Errorf("%s: %x, not %x", what, got, limbsOf(want))
	}
}

// spare is a copy of l with spare room behind it, and the whole of both.
func spare[T any](l []T, mark T) (part, whole []T) {
	whole = append(slices.Clone(l), mark, mark, mark)
	return whole[:len(l)], whole
}

// untouched hands do lists with spare room, and fails if it changed them or
// the room; if its answer shares their memory; if it keeps what it was handed
// or what it told; or if it answers otherwise the second time.
func untouched[I, O uint64 | byte](t *testing.T, what string, lists [][]I, do func(l [][]I) []O) {
	t.Helper()
	handed := make([][]I, len(lists))
	wholes := make([][]I, len(lists))
	for i, l := range lists {
		handed[i], wholes[i] = spare(l, 77)
	}
	got := do(handed)
	want := slices.Clone(got)
	got = got[:cap(got)]
	for i := range got {
		got[i] ^= 0x55
	}
	for i, l := range lists {
		if !slices.Equal(wholes[i], append(slices.Clone(l), 77, 77, 77)) {
			t.Errorf("%s: what was handed in has changed: %x", what, wholes[i])
		}
	}
	held := slices.Clone(got)
	for _, w := range wholes {
		for i := range w {
			w[i] ^= 0x33
		}
	}
	if !slices.Equal(got, held) {
		t.Errorf("%s: the answer has changed with what was handed in", what)
	}
	for i, l := range lists {
		handed[i] = slices.Clone(l)
	}
	if again := do(handed); !slices.Equal(again, want) {
		t.Errorf("%s: %x, then %x", what, want, again)
	}
}

// refused fails if e is another error, or an answer stands beside it.
func refused[T any](t *testing.T, what string, got []T, e, want api.Errno) {
	t.Helper()
	if got != nil || e != want {
		t.Errorf("%s: %v, error %d, not %d", what, got, e, want)
	}
}
