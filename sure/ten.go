package sure

import (
	"numeral/power"
)

// ten is a power of ten: the 128 bits of top, the higher ones first, times 2^exp, if it is whole; else it lies between that and the 128 bits and one, times 2^exp.
type ten struct {
	top   [2]uint64
	exp   int
	whole bool
}

// tenOf is 10 to the power of k. All that floats ask for, in so few digits, are among those that are kept.
func tenOf(k int) ten {
	hi, lo, exp, _ := power.Ten(k)
	whole, _ := power.Whole(k)
	return ten{[2]uint64{hi, lo}, exp, whole}
}

// ends are the two numbers between which a product with a power of ten lies; one twice, if it is known just.
type ends [2]point

// times is y times 2^exp times the power of ten.
func (t ten) times(y uint64, exp int) ends {
	low := product(y, t.top)
	high := low
	if !t.whole {
		// The 128 bits and one, y times, are y more.
		high = low.plus(y)
	}
	return ends{low.times2(t.exp + exp), high.times2(t.exp + exp)}
}

// agreed is the whole number to which both ends are taken; false, if they are taken to two.
func (e ends) agreed(whole func(point) uint64) (uint64, bool) {
	n := whole(e[0])
	return n, n == whole(e[1])
}
