package hex

import (
	"math/bits"
	"strings"

	"numeral/api"
	"numeral/exact"
	"numeral/round"
	"numeral/steps"
)

const limbBits = 32

func checkPlaces(places int) api.Errno {
	if places < 0 || places > api.MaxPlaces {
		return api.ErrPlaces
	}
	return api.OK
}

// rounded is a dyadic with so many sixteens behind its first bit; nought, which has none, stays.
func rounded(d api.Dyadic, places int, mode uint8) (api.Dyadic, api.Errno) {
	if len(d.Mant.Limbs) == 0 {
		return d, api.OK
	}
	unit := firstBit(d) - 4*places // the exponent of two of the last sixteen
	d.Exp -= unit
	var w steps.Run
	neg, n, _, e := round.Whole(w.Ratio(exact.Ratio(d)), mode)
	w.Keep(e)
	// Where rounding comes to the next exponent, it comes to a power of two, whose one text has that exponent already.
	d = w.Dyadic(exact.Make(neg, n, unit))
	return d, w.Err
}

// firstBit is the exponent of two of the first bit of a dyadic that is not nought.
func firstBit(d api.Dyadic) int {
	last := len(d.Mant.Limbs) - 1
	return d.Exp + last*limbBits + bits.Len32(d.Mant.Limbs[last]) - 1
}

// filled is a text in sixteens with noughts behind its digits, so that there are so many behind the point; it must not have more.
func filled(text string, places int) string {
	if places == 0 {
		return text
	}
	digits, exp, _ := strings.Cut(text, "p")
	ahead, behind, _ := strings.Cut(digits, ".")
	return ahead + "." + behind + strings.Repeat("0", places-len(behind)) + "p" + exp
}
