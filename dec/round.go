package dec

import (
	"cmp"

	"numeral/api"
)

// Round keeps so many digits; the bool: nothing was lost.
func Round(d api.Dec, digits int, mode uint8) (api.Dec, bool, api.Errno) {
	if e := checkRounding(d, digits, 1, mode); e != api.OK {
		return api.Dec{}, false, e
	}
	return rounded(d, len(d.Digits)-digits, mode)
}

// Places keeps so many digits behind the point; the bool: nothing was lost.
func Places(d api.Dec, places int, mode uint8) (api.Dec, bool, api.Errno) {
	if e := checkRounding(d, places, 0, mode); e != api.OK {
		return api.Dec{}, false, e
	}
	return rounded(d, -d.Exp-places, mode)
}

func checkRounding(d api.Dec, asked, least int, mode uint8) api.Errno {
	if e := Check(d); e != api.OK {
		return e
	}
	if asked < least || asked > api.MaxPlaces {
		return api.ErrPlaces
	}
	if mode > api.Down {
		return api.ErrMode
	}
	return api.OK
}

// rounded is d without its last so many digits, rounded, and whether it is d. There may be more to cut than d has: noughts stand ahead of its digits then.
func rounded(d api.Dec, cut int, mode uint8) (api.Dec, bool, api.Errno) {
	if cut <= 0 {
		return copied(d), true, api.OK
	}
	size := max(len(d.Digits)-cut, 0)
	// One nought ahead, so that a carry has its place.
	kept := make([]byte, 1+size)
	kept[0] = '0'
	copy(kept[1:], d.Digits)
	odd := kept[size]&1 == 1
	if goesOut(mode, d.Neg, odd, half(d.Digits[size:], cut)) {
		addOne(kept)
	}
	r, e := Make(d.Neg, string(kept), d.Exp+cut)
	return r, false, e
}

// half is -1, 0 or 1, as so many digits, behind the point, are less than a half, just that, more. They do not end in a nought: so their bytes, held against one 5, tell it; where there are fewer of them, noughts stand ahead.
func half(digits string, size int) int {
	if len(digits) < size {
		return -1
	}
	return cmp.Compare(digits, "5")
}

// goesOut is whether of the two numbers that one lies between the one farther from nought is taken; odd is whether the other one is odd.
func goesOut(mode uint8, neg, odd bool, half int) bool {
	switch mode {
	case api.Even:
		return half > 0 || half == 0 && odd
	case api.Away:
		return half >= 0
	case api.Up:
		return !neg
	case api.Down:
		return neg
	}
	return false
}

// addOne works in place; not all of the digits are 9.
func addOne(digits []byte) {
	at := len(digits) - 1
	for digits[at] == '9' {
		digits[at] = '0'
		at--
	}
	digits[at]++
}
