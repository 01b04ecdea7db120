package limb

import (
	"bytes"
	"math"
	"math/big"
	"slices"
	"testing"

	"intaglio/api"
)

const mostBytes = 8 * api.MaxLimbs

// P1.2: Put.

func TestPutWritesTheHighestFirst(t *testing.T) {
	for _, x := range []struct {
		a    []uint64
		n    int
		want []byte
	}{
		{[]uint64{0x0102}, 2, []byte{1, 2}},
		{[]uint64{0x0102}, 4, []byte{0, 0, 1, 2}},
		{[]uint64{0x0102030405060708, 0x090a}, 10, []byte{9, 10, 1, 2, 3, 4, 5, 6, 7, 8}},
		{[]uint64{255}, 1, []byte{255}},
		{[]uint64{1, 0, 0, 0}, 1, []byte{1}},
		{nil, 0, nil},
		{[]uint64{0, 0}, 0, nil},
		{nil, 3, []byte{0, 0, 0}},
		{nil, mostBytes, make([]byte, mostBytes)},
		{make([]uint64, 2*api.MaxLimbs), mostBytes, make([]byte, mostBytes)},
		{[]uint64{1}, mostBytes, append(make([]byte, mostBytes-1), 1)},
		{full(api.MaxLimbs), mostBytes, bytes.Repeat([]byte{255}, mostBytes)},
	} {
		if got, e := Put(x.a, x.n); !bytes.Equal(got, x.want) || e != api.OK {
			t.Errorf("Put(%x, %d): %x, error %d, not %x", x.a, x.n, got, e, x.want)
		}
	}
}

func TestPutRefusesWhatDoesNotFit(t *testing.T) {
	for _, x := range []struct {
		a []uint64
		n int
	}{
		{nil, -1},
		{nil, math.MinInt},
		{nil, mostBytes + 1},
		{nil, math.MaxInt},
		{[]uint64{1}, -1},
		{[]uint64{1}, mostBytes + 1},
		{[]uint64{1}, 0},
		{[]uint64{256}, 1},
		{[]uint64{256, 0, 0}, 1},
		{[]uint64{0, 1}, 8},
		{[]uint64{0, 256}, 9},
		{full(api.MaxLimbs), mostBytes - 1},
		{power(api.MaxLimbs), mostBytes},
	} {
		got, e := Put(x.a, x.n)
		refused(t, "Put", got, e, api.ErrLong)
	}
}

func TestPutInAllLengths(t *testing.T) {
	for _, a := range edges(api.MaxLimbs) {
		number := bigOf(a)
		for n := -2; n <= mostBytes+2; n++ {
			got, e := Put(a, n)
			if n < 0 || n > mostBytes || number.BitLen() > 8*n {
				refused(t, "Put", got, e, api.ErrLong)
			} else if want := number.FillBytes(make([]byte, n)); !bytes.Equal(got, want) || e != api.OK {
				t.Errorf("Put(%x, %d): %x, error %d, not %x", a, n, got, e, want)
			}
		}
	}
}

// P1.2: Take.

func TestTakeReadsTheHighestFirst(t *testing.T) {
	for _, x := range []struct {
		b    []byte
		want []uint64
	}{
		{nil, nil},
		{[]byte{}, nil},
		{[]byte{0}, nil},
		{make([]byte, mostBytes), nil},
		{[]byte{1, 2}, []uint64{0x0102}},
		{[]byte{0, 0, 0, 0, 0, 0, 0, 0, 0, 7}, []uint64{7}},
		{[]byte{1, 2, 3, 4, 5, 6, 7, 8}, []uint64{0x0102030405060708}},
		{[]byte{9, 1, 2, 3, 4, 5, 6, 7, 8}, []uint64{0x0102030405060708, 9}},
		{bytes.Repeat([]byte{255}, mostBytes), full(api.MaxLimbs)},
	} {
		if got := Take(x.b); !slices.Equal(got, x.want) {
			t.Errorf("Take(%x): %x, not %x", x.b, got, x.want)
		}
	}
	m := mixer(3)
	for n := range mostBytes + 1 {
		b := make([]byte, n)
		for i := range b {
			b[i] = byte(m.next())
		}
		is(t, "Take", Take(b), new(big.Int).SetBytes(b))
	}
}

func TestWhatIsPutIsTaken(t *testing.T) {
	m := mixer(4)
	for range 500 {
		a := m.number(int(m.next() % (api.MaxLimbs + 1)))
		b, e := Put(a, mostBytes)
		if e != api.OK || len(b) != mostBytes {
			t.Fatalf("Put(%x): %d bytes, error %d", a, len(b), e)
		}
		got := Take(b)
		if Compare(got, a) != 0 {
			t.Errorf("%x is taken as %x", a, got)
		}
		if again, e := Put(got, mostBytes); !bytes.Equal(again, b) || e != api.OK {
			t.Errorf("%x is put again as %x, error %d", b, again, e)
		}
	}
}
