package point

import (
	"slices"

	"intaglio/api"
	"intaglio/fp"
)

const (
	markText  = 0x80
	markInf   = 0x40
	markGreat = 0x20
	marks     = markText | markInf | markGreat
)

// text is what a point's text says, whether there is such a point or not.
type text struct {
	inf, great bool
	numbers    []api.Fp // none of Inf
}

// infText tells Inf in so many bytes.
func infText(size int) []byte {
	out := make([]byte, size)
	out[0] = markText | markInf
	return out
}

// placeText tells X's numbers one behind the other, and whether Y is Great.
func placeText(great bool, numbers ...api.Fp) []byte {
	var out []byte
	for _, x := range numbers {
		out = append(out, fp.Put(x)...)
	}
	out[0] |= markText
	if great {
		out[0] |= markGreat
	}
	return out
}

// read tells what b says; api.ErrShort, api.ErrLong: it has another length;
// api.ErrForm: it is no text of this form, or Inf's with another bit set;
// api.ErrBig: a number is not below P.
func read(b []byte, size int) (text, api.Errno) {
	if len(b) < size {
		return text{}, api.ErrShort
	}
	if len(b) > size {
		return text{}, api.ErrLong
	}
	mark := b[0] & marks
	bare := slices.Clone(b) // what is handed in keeps its marks
	bare[0] &^= marks
	if mark&markText == 0 {
		return text{}, api.ErrForm
	}
	if mark&markInf != 0 {
		return readInf(mark, bare)
	}
	return readPlace(mark, bare)
}

// readInf tells Inf, if nothing stands beside its marks.
func readInf(mark byte, bare []byte) (text, api.Errno) {
	if mark&markGreat != 0 || !noughts(bare) {
		return text{}, api.ErrForm
	}
	return text{inf: true}, api.OK
}

// readPlace tells a place's numbers, as they stand.
func readPlace(mark byte, bare []byte) (text, api.Errno) {
	out := text{great: mark&markGreat != 0}
next:
	if len(bare) > 0 {
		x, e := fp.Take(bare[:numberSize])
		if e != api.OK {
			return text{}, e
		}
		out.numbers = append(out.numbers, x)
		bare = bare[numberSize:]
		goto next
	}
	return out, api.OK
}

// noughts tells whether all of b is 0.
func noughts(b []byte) bool {
next:
	if len(b) == 0 {
		return true
	}
	if b[0] != 0 {
		return false
	}
	b = b[1:]
	goto next
}
