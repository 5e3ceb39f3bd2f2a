package nat

import "numeral/api"

// Up is a times 2 to the power of n.
func Up(a api.Nat, n int) (api.Nat, api.Errno) {
	if e := Check(a); e != api.OK {
		return api.Nat{}, e
	}
	if n < 0 {
		return api.Nat{}, api.ErrArg
	}
	if len(a.Limbs) == 0 {
		return api.Nat{}, api.OK
	}
	// Written as a difference, as the sum may wrap.
	if n > maxBits-bitLength(a.Limbs) {
		return api.Nat{}, api.ErrMany
	}
	return limited(shiftUp(a.Limbs, n))
}

// Down is a over 2 to the power of n, rounded down.
func Down(a api.Nat, n int) (api.Nat, api.Errno) {
	if e := Check(a); e != api.OK {
		return api.Nat{}, e
	}
	if n < 0 {
		return api.Nat{}, api.ErrArg
	}
	return api.Nat{Limbs: shiftDown(a.Limbs, n)}, api.OK
}

// shiftUp answers one limb more than the whole limbs of the shift and those of x, be it needed or not.
func shiftUp(x []uint32, n int) []uint32 {
	whole, part := n/limbBits, n%limbBits
	out := make([]uint32, whole+len(x)+1)
	for i, limb := range x {
		both := uint64(limb)
		both <<= part
		out[whole+i] |= uint32(both)
		out[whole+i+1] |= uint32(both >> limbBits)
	}
	return out
}

// shiftDown answers new memory without noughts at the high end.
func shiftDown(x []uint32, n int) []uint32 {
	whole, part := n/limbBits, n%limbBits
	if whole >= len(x) {
		return nil
	}
	kept := x[whole:len(x):len(x)]
	out := make([]uint32, len(kept))
	above := uint64(0)
	for i := len(kept) - 1; i >= 0; i-- {
		above <<= limbBits
		above |= uint64(kept[i])
		out[i] = uint32(above >> part)
	}
	return trim(out)
}
