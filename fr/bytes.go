package fr

import (
	"intaglio/api"
	"intaglio/limb"
)

const size = 32

// Put tells a in 32 bytes, the highest first.
func Put(a api.Fr) []byte {
	out, _ := limb.Put(a[:], size) // four limbs fit
	return out
}

// Take tells whose Put b is; api.ErrShort: fewer than 32 bytes; api.ErrLong:
// more; api.ErrBig: not below R.
func Take(b []byte) (api.Fr, api.Errno) {
	if len(b) < size {
		return api.Fr{}, api.ErrShort
	}
	if len(b) > size {
		return api.Fr{}, api.ErrLong
	}
	a := scalar(limb.Take(b))
	if !May(a) {
		return api.Fr{}, api.ErrBig
	}
	return a, api.OK
}

// Wide tells the number that b is, the highest byte first, modulo R.
func Wide(b []byte) api.Fr {
	rest, _ := limb.Rest(limb.Take(b), R()) // R is not 0
	return scalar(rest)
}

// scalar fills the noughts on top in; a has at most four limbs.
func scalar(a []uint64) api.Fr {
	var out api.Fr
	copy(out[:], a)
	return out
}
