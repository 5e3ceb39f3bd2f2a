package short

import (
	"numeral/api"
	"numeral/dec"
)

// gap is how far an end of an interval is from a number in it, and whether the end lies in it, too.
type gap struct {
	far api.Dec
	in  bool
}

// has tells whether a number that is so far away, on the side of this end, lies in the interval.
func (g gap) has(far api.Dec) bool {
	order, e := dec.Cmp(far, g.far)
	return e == api.OK && (order < 0 || order == 0 && g.in)
}

// interval is told by its gaps to a number.
type interval struct{ below, above gap }

// hasAt tells whether that number itself lies in it.
func (i interval) hasAt() bool { return i.below.has(api.Dec{}) && i.above.has(api.Dec{}) }

// has tells whether a decimal lies in it.
func (i interval) has(d beside) bool {
	if d.above {
		return i.above.has(d.far)
	}
	return i.below.has(d.far)
}

// best is the best decimal in an interval for a number in it, which is told, as are the gaps, times unit. The interval is more than one number.
func best(at, unit api.Dec, in interval) (api.Dec, api.Errno) {
	neg := at.Neg
	if neg {
		at.Neg = false
		in.below, in.above = in.above, in.below
	}
	// Nought has the fewest digits; it is as far away as the number is great.
	if in.below.has(at) {
		return api.Dec{}, api.OK
	}
	d, e := fewest(at, unit, in.has)
	d.Neg = neg
	return d, e
}
