package wide

import (
	"math/big"
	"testing"

	"numeral/api"
	"numeral/exact"
)

// isWorth is whether a dyadic that may be is w.
func isWorth(d api.Dyadic, w worth) bool {
	if exact.Check(d) != api.OK || d.Neg {
		return false
	}
	n := new(big.Int)
	for i, limb := range d.Mant.Limbs {
		n.Or(n, up(new(big.Int).SetUint64(uint64(limb)), 32*i))
	}
	low := min(d.Exp, w.exp)
	return up(n, d.Exp-low).Cmp(up(w.n, w.exp-low)) == 0
}

// endsAre holds the ends that the package works with against the chapter's L and U: no float tells them to the last bit.
func endsAre(t *testing.T, d api.Dec) {
	t.Helper()
	low, high, ok := endsOf(d)
	c, is := cutOf(d)
	if is != ok {
		t.Errorf("%s: its power of ten is kept: %v", short(d), is)
	}
	if ok && !isWorth(c.least(), low) {
		t.Errorf("%s: L is %v", short(d), c.least())
	}
	if ok && !isWorth(c.most(), high) {
		t.Errorf("%s: U is %v", short(d), c.most())
	}
}

func TestP151P152Ends(t *testing.T) {
	r := source(4)
	for k := -402; k <= 402; k++ {
		few, more := withK(k)
		for _, d := range few {
			endsAre(t, d)
		}
		for _, d := range more[:9] {
			endsAre(t, d)
		}
		// Products with noughts in their last words, one word and more of them.
		for twos := range 64 {
			if n := uint64(1) << twos; n <= 9999999999999999999 {
				endsAre(t, made(t, new(big.Int).SetUint64(n).String(), k))
			}
		}
		for range 10 {
			endsAre(t, dc(digitsOf(r, someSize(r)), k))
		}
	}
}
