package fp

import (
	"intaglio/api"
	"intaglio/limb"
)

const size = 48

// Put tells a in 48 bytes, the highest first.
func Put(a api.Fp) []byte {
	out, _ := limb.Put(a[:], size) // six limbs fit
	return out
}

// Take tells whose Put b is; api.ErrShort: fewer than 48 bytes; api.ErrLong:
// more; api.ErrBig: not below P.
func Take(b []byte) (api.Fp, api.Errno) {
	if len(b) < size {
		return api.Fp{}, api.ErrShort
	}
	if len(b) > size {
		return api.Fp{}, api.ErrLong
	}
	var a api.Fp
	copy(a[:], limb.Take(b)) // at most six limbs; noughts on top are left away there
	if !May(a) {
		return api.Fp{}, api.ErrBig
	}
	return a, api.OK
}
