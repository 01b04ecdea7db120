package talk

import (
	"bytes"
	"slices"
	"strings"
	"sync"
	"testing"
)

// R1: beyond the limits calls still end, and none panics.
func TestBeyondTheLimits(t *testing.T) {
	x := New(strings.Repeat("n", mostBytes+1))
	x.Tell(1, make([]byte, mostBytes+1))
	x.Tell(2, make([]byte, 1<<25))
	x.Ask(3)
	New(strings.Repeat("n", 1<<25)).Ask(0)
}

// R3: what is told is neither changed nor kept; its spare room does not count.
func TestWhatIsToldIsLeftAsItWas(t *testing.T) {
	m := mixer(4)
	for _, n := range []int{0, 1, 21, 22, 23, 55, 64, 100, 1000} {
		b := m.text(n)
		whole := append(slices.Clone(b), m.text(150)...)
		held := slices.Clone(whole)
		x := begin(t, "spare")
		x.talk.Tell(5, whole[:n])
		x.twin.tell(5, b)
		x.same("with spare room")
		if !bytes.Equal(whole, held) {
			t.Errorf("%d bytes: what was told has changed", n)
		}
		clear(whole)
		x.same("its memory in use again")
		x.ask(6)
	}
}

func TestNilAndEmptyAreOne(t *testing.T) {
	x, y, z := New("none"), New("none"), New("none")
	x.Tell(1, nil)
	y.Tell(1, []byte{})
	z.Tell(1, make([]byte, 0, 100))
	if x.State() != y.State() || x.State() != z.State() {
		t.Error("nil and an empty text are told as two")
	}
}

// A state that was told is new memory, and may be told on.
func TestStatesAreNewMemory(t *testing.T) {
	x := begin(t, "memory")
	s := x.talk.State()
	clear(s[:])
	x.same("a state cleared")
	s = x.talk.State()
	held := s
	x.tell(1, s[:])
	if s != held {
		t.Error("a state has gone on with its talk")
	}
	x.ask(2)
}

// R4: a talk hangs on what was done to it alone, not on other talks.
func TestTalksShareNothing(t *testing.T) {
	x, y, z := begin(t, "share"), begin(t, "share"), begin(t, "other")
	for i := range byte(20) {
		x.tell(i, []byte("told"))
		z.tell(i, []byte("other"))
		z.ask(i)
		x.ask(i)
	}
	y.same("the other talks went on")
	for i := range byte(20) {
		y.tell(i, []byte("told"))
		y.ask(i)
	}
	if x.talk.State() != y.talk.State() || *x.talk != *y.talk {
		t.Error("two talks that were told the same are two")
	}
	if New("share") == New("share") {
		t.Error("two talks are one")
	}
}

// A copy of a talk goes its own way.
func TestCopies(t *testing.T) {
	x := begin(t, "copy")
	x.tell(1, []byte("abc"))
	copied := *x.talk
	other := &both{t, &copied, &twin{slices.Clone(x.twin.state)}}
	x.tell(2, []byte("one"))
	other.same("its first went on")
	other.ask(3)
	x.same("its copy went on")
	x.ask(3)
}

// Talks at one time share nothing.
func TestManyAtOnce(t *testing.T) {
	var all sync.WaitGroup
	for i := range 8 {
		all.Go(func() {
			m := mixer(5 + i)
			x := begin(t, "at once")
			for range 100 {
				x.tell(byte(m.next()), m.text(int(m.next()%90)))
				x.ask(byte(m.next()))
			}
		})
	}
	all.Wait()
}
