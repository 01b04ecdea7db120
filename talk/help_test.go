package talk

import (
	"crypto/sha256"
	"encoding/binary"
	"encoding/hex"
	"math/big"
	"strings"
	"testing"

	"intaglio/api"
)

// mostBytes is how long a name and what is told may be by the document.
const mostBytes = 1 << 20

// modulus is R.
var modulus, _ = new(big.Int).SetString("73eda753299d7d483339d80809a1d80553bda402fffe5bfeffffffff00000001", 16)

// twin is a talk of the tests' own: the library's digests of texts that are
// written on piece by piece, and great numbers.
type twin struct{ state []byte }

func pressed(pieces ...[]byte) []byte {
	h := sha256.New()
	for _, p := range pieces {
		h.Write(p)
	}
	return h.Sum(nil)
}

func newTwin(name string) *twin {
	return &twin{pressed([]byte{0}, []byte(name))}
}

func (w *twin) tell(tag byte, b []byte) {
	length := make([]byte, 8)
	binary.BigEndian.PutUint64(length, uint64(len(b)))
	w.state = pressed(w.state, []byte{1}, []byte{tag}, length, b)
}

func (w *twin) ask(tag byte) *big.Int {
	high := new(big.Int).SetBytes(pressed(w.state, []byte{2}, []byte{tag}, []byte{0}))
	low := new(big.Int).SetBytes(pressed(w.state, []byte{2}, []byte{tag}, []byte{1}))
	w.state = pressed(w.state, []byte{3}, []byte{tag})
	high.Lsh(high, 256).Add(high, low)
	return high.Mod(high, modulus)
}

// number is a scalar as a great number.
func number(a api.Fr) *big.Int {
	out := new(big.Int)
	for i := range a {
		out.Lsh(out, 64).Add(out, new(big.Int).SetUint64(a[len(a)-1-i]))
	}
	return out
}

// both are a talk and its twin, which are held against each other after all
// that is done to them.
type both struct {
	t    *testing.T
	talk *Talk
	twin *twin
}

func begin(t *testing.T, name string) *both {
	b := &both{t, New(name), newTwin(name)}
	b.same("New")
	return b
}

// zero begins with no name: with 32 noughts.
func zero(t *testing.T) *both {
	b := &both{t, &Talk{}, &twin{make([]byte, 32)}}
	b.same("zero")
	return b
}

func (b *both) same(what string) {
	b.t.Helper()
	if got := b.talk.State(); string(got[:]) != string(b.twin.state) {
		b.t.Errorf("%s: the state %x, not %x", what, got, b.twin.state)
	}
}

func (b *both) tell(tag byte, text []byte) {
	b.t.Helper()
	b.talk.Tell(tag, text)
	b.twin.tell(tag, text)
	b.same("Tell")
}

func (b *both) ask(tag byte) {
	b.t.Helper()
	got, want := b.talk.Ask(tag), b.twin.ask(tag)
	if number(got).Cmp(want) != 0 {
		b.t.Errorf("Ask(%d): %x, not %x", tag, number(got), want)
	}
	b.same("Ask")
}

// mixer makes the same numbers in each run.
type mixer uint64

func (m *mixer) next() uint64 {
	*m += 0x9e3779b97f4a7c15
	x := uint64(*m)
	x = (x ^ x>>30) * 0xbf58476d1ce4e5b9
	x = (x ^ x>>27) * 0x94d049bb133111eb
	return x ^ x>>31
}

func (m *mixer) text(n int) []byte {
	out := make([]byte, n)
	for i := range out {
		out[i] = byte(m.next() >> 32)
	}
	return out
}

// isState holds a state against its text.
func isState(t *testing.T, what string, got [32]byte, want string) {
	t.Helper()
	if hex.EncodeToString(got[:]) != strings.ReplaceAll(want, " ", "") {
		t.Errorf("%s: %x, not %s", what, got, want)
	}
}

// isScalar holds a scalar against its text.
func isScalar(t *testing.T, what string, got api.Fr, want string) {
	t.Helper()
	if n, _ := new(big.Int).SetString(want, 16); number(got).Cmp(n) != 0 {
		t.Errorf("%s: %x, not %s", what, number(got), want)
	}
}
