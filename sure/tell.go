package sure

import (
	"strconv"

	"numeral/api"
	"numeral/dec"
)

// fewest is the decimal of the fewest digits in the reach, of these the nearest one.
func (n number) fewest() (api.Dec, bool) {
	from, to := point.above, point.below
	if n.closed {
		from, to = point.atLeast, point.atMost
	}
	first := n.first()
	for digits := 1; digits <= mostDigits; digits++ {
		last := first + 1 - digits
		t := tenOf(-last)
		least, lowSure := t.times(n.low, n.exp).agreed(from)
		greatest, highSure := t.times(n.high, n.exp).agreed(to)
		if !lowSure || !highSure {
			return api.Dec{}, false
		}
		if least > greatest {
			continue
		}
		nearest, sure := t.times(n.worth, n.exp).agreed(point.nearest)
		if !sure {
			return api.Dec{}, false
		}
		return n.decimal(min(max(nearest, least), greatest), last), true
	}
	return api.Dec{}, false
}

// rounded is the number in so many digits.
func (n number) rounded(digits int) (api.Dec, bool) {
	last := n.first() + 1 - digits
	nearest, sure := tenOf(-last).times(n.worth, n.exp).agreed(point.nearest)
	if !sure {
		return api.Dec{}, false
	}
	return n.decimal(nearest, last), true
}

// decimal is the whole number times 10 to the power of last, with the float's sign. So few digits, so near the point, are never refused.
func (n number) decimal(whole uint64, last int) api.Dec {
	d, _ := dec.Make(n.neg, strconv.FormatUint(whole, 10), last)
	return d
}
