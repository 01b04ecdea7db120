package talk

import (
	"bytes"
	"strings"
	"testing"

	"intaglio/api"
	"intaglio/fr"
)

// P13.1, written out: reckoned ahead in another program.
func TestKnownTalks(t *testing.T) {
	x := New("")
	isState(t, "no name", x.State(), "6e340b9cffb37a989ca544e6bb780a2c78901d3fb33738768511a30617afa01d")
	x.Tell(0, nil)
	isState(t, "nothing told", x.State(), "f8c710c846898f522e669720db9e61bccf8efa14bb38ccd571d55d85e8a1c07a")
	isScalar(t, "asked", x.Ask(0), "6873d9f06973007d2e596015b3059e806499b09667fcdeec8c84972f7dd98b4d")
	isState(t, "after it", x.State(), "b38af5669d428237e8383860ee8b4542bc4cb2c42fcb4bf4b64e62dadf929bb6")

	x = New("intaglio")
	isState(t, "a name", x.State(), "f40ed35eca0dc7bf4ef183040bbe1bbe80e04681d05864007da22a1f65407db2")
	all := make([]byte, 512)
	for i := range all {
		all[i] = byte(i)
	}
	x.Tell(255, all)
	isState(t, "512 bytes told", x.State(), "f57e72685baa8822518c90c9f58f5aaee8f708da558264345427b830cdf00de5")
	isScalar(t, "asked", x.Ask(255), "515e70b4166bc4ebec57b82f8ea0e03d0e3862d83f19d13459c15e85a2ecc88e")
	isState(t, "after it", x.State(), "baaeda3e55565307217792aa6283f4f32da5b225c4238a3155a9da884feb4a4f")
	isScalar(t, "asked again", x.Ask(255), "3101e970c8f6436dd94dacefd0ab549d5466ec767fd8a6c5fdf624df352ee1e6")
	isState(t, "after that", x.State(), "e9557547409d30bb05ccdffce99149d8e166d606bda465165b52a854904b43a9")
}

func TestNames(t *testing.T) {
	m := mixer(1)
	for n := range 200 {
		begin(t, string(m.text(n)))
		begin(t, strings.Repeat("\x00", n))
		begin(t, strings.Repeat("\xff", n))
	}
	for _, name := range []string{"x", "PLONK", "ein Gespräch", "\u0416", "\xc3\x28", "a\x00b"} {
		begin(t, name).ask(0)
	}
	for _, n := range []int{1 << 10, 1 << 16, mostBytes - 1, mostBytes} {
		begin(t, string(m.text(n))).ask(1)
	}
}

func TestTellByLength(t *testing.T) {
	m := mixer(2)
	for n := range 300 {
		begin(t, "length").tell(byte(n), m.text(n))
	}
	for _, n := range []int{1<<16 - 1, 1 << 16, 1<<16 + 1, mostBytes - 1, mostBytes} {
		x := begin(t, "length")
		x.tell(3, m.text(n))
		x.ask(3)
	}
}

func TestEveryTag(t *testing.T) {
	x := begin(t, "tag")
	for tag := range 256 {
		x.tell(byte(tag), []byte("told"))
		x.ask(byte(tag))
	}
}

// A challenge is the rest by R of all 64 bytes: with so many of them the
// highest and the lowest bits of both halves come out both ways.
func TestLongTalk(t *testing.T) {
	m := mixer(3)
	x := begin(t, "long")
	for range 3000 {
		switch what := m.next(); what % 3 {
		case 0:
			x.tell(byte(what>>8), m.text(int(what>>16%150)))
		default:
			x.ask(byte(what >> 8))
		}
	}
}

func TestChallengesAreScalars(t *testing.T) {
	x := New("scalars")
	seen := map[api.Fr]bool{}
	for range 2000 {
		c := x.Ask(7)
		if !fr.May(c) {
			t.Fatalf("%x is not below R", c)
		}
		if seen[c] {
			t.Fatalf("%x is asked twice", c)
		}
		seen[c] = true
	}
}

// State alone changes nothing.
func TestStateIsOnlyTold(t *testing.T) {
	x, y := New("state"), New("state")
	for i := range byte(10) {
		x.State()
		if x.State() != y.State() || x.Ask(i) != y.Ask(i) {
			t.Fatal("a state that was told has changed the talk")
		}
	}
}

// What is asked hangs on all that was told ahead: each of these talks is
// another.
func TestAllThatIsSaidCounts(t *testing.T) {
	said := map[string]func() *Talk{
		"zero":        func() *Talk { return &Talk{} },
		"no name":     func() *Talk { return New("") },
		"nought":      func() *Talk { return New("\x00") },
		"two noughts": func() *Talk { return New("\x00\x00") },
		"another":     func() *Talk { return New("b") },
		"name":        func() *Talk { return New("a") },
		"nothing":     func() *Talk { return after("a", tell(0, "")) },
		"other tag":   func() *Talk { return after("a", tell(1, "")) },
		"0":           func() *Talk { return after("a", tell(0, "\x00")) },
		"00":          func() *Talk { return after("a", tell(0, "\x00\x00")) },
		"0, 0":        func() *Talk { return after("a", tell(0, "\x00"), tell(0, "\x00")) },
		"01":          func() *Talk { return after("a", tell(0, "\x00\x01")) },
		"10":          func() *Talk { return after("a", tell(0, "\x01\x00")) },
		"ab, c":       func() *Talk { return after("a", tell(0, "ab"), tell(0, "c")) },
		"a, bc":       func() *Talk { return after("a", tell(0, "a"), tell(0, "bc")) },
		"abc":         func() *Talk { return after("a", tell(0, "abc")) },
		"b, a":        func() *Talk { return after("a", tell(0, "b"), tell(0, "a")) },
		"a, b":        func() *Talk { return after("a", tell(0, "a"), tell(0, "b")) },
		"a, ?, b":     func() *Talk { return after("a", tell(0, "a"), ask(0), tell(0, "b")) },
		"a, b, ?":     func() *Talk { return after("a", tell(0, "a"), tell(0, "b"), ask(0)) },
		"?":           func() *Talk { return after("a", ask(0)) },
		"? of 1":      func() *Talk { return after("a", ask(1)) },
		"??":          func() *Talk { return after("a", ask(0), ask(0)) },
	}
	asked := map[api.Fr]string{}
	for what, begun := range said {
		for tag := range byte(3) {
			c := begun().Ask(tag)
			if other, is := asked[c]; is {
				t.Errorf("%s and %s ask the same", what, other)
			}
			asked[c] = what
		}
	}
}

func tell(tag byte, b string) func(*Talk) { return func(x *Talk) { x.Tell(tag, []byte(b)) } }

func ask(tag byte) func(*Talk) { return func(x *Talk) { x.Ask(tag) } }

func after(name string, done ...func(*Talk)) *Talk {
	x := New(name)
	for _, do := range done {
		do(x)
	}
	return x
}

// Each bit of what is told counts.
func TestEachBitCounts(t *testing.T) {
	b := bytes.Repeat([]byte{0x3c}, 70)
	want := after("bits", tell(1, string(b))).Ask(1)
	for i := range 8 * len(b) {
		b[i/8] ^= 1 << (i % 8)
		if after("bits", tell(1, string(b))).Ask(1) == want {
			t.Errorf("bit %d does not count", i)
		}
		b[i/8] ^= 1 << (i % 8)
	}
}

func TestZeroTalk(t *testing.T) {
	if (&Talk{}).State() != [32]byte{} {
		t.Error("a zero talk has a state of its own")
	}
	x := zero(t)
	x.ask(1)
	x.tell(2, []byte("abc"))
	x.ask(3)
	y := zero(t)
	y.tell(1, []byte("abc"))
	isState(t, "told abc", y.talk.State(), "29e78ab45801b613eae8611612e5fb14c22f0eed2351cd5cbd035df5b4aab7a7")
	z := &Talk{}
	isScalar(t, "asked of noughts", z.Ask(1), "4bcc4be0c024cb816115a123a4d11df001300b83371858b84cfae863b0f4ff02")
	isState(t, "after it", z.State(), "f57020f70705b72281e8dd5f79f1826d23d7b5e2c5171a2b5d4a22570a8dca90")
}

func TestNilTalk(t *testing.T) {
	var none *Talk
	for tag := range 256 {
		none.Tell(byte(tag), []byte("abc"))
		if none.Ask(byte(tag)) != (api.Fr{}) || none.State() != [32]byte{} {
			t.Errorf("%d: none tells something", tag)
		}
	}
	if none != nil {
		t.Error("none has become one")
	}
	none.Tell(0, nil)
	none.Tell(0, make([]byte, mostBytes))
}
