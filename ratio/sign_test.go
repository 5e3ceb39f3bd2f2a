package ratio

import (
	"math/big"
	"testing"

	"numeral/api"
)

func checkSigns(t *testing.T, a api.Ratio) {
	t.Helper()
	got, e := Neg(a)
	same(t, "Neg", got, e, new(big.Rat).Neg(asRat(a)))
	got, e = Neg(got)
	same(t, "Neg of Neg", got, e, asRat(a))
	got, e = Abs(a)
	same(t, "Abs", got, e, new(big.Rat).Abs(asRat(a)))
}

// checkFloor goes by the library's quotient that is rounded down (of a Den above nought).
func checkFloor(t *testing.T, a api.Ratio) {
	t.Helper()
	x := asRat(a)
	want := new(big.Int).Div(x.Num(), x.Denom())
	neg, n, e := Floor(a)
	got := asBig(n)
	if neg {
		got.Neg(got)
	}
	if e != api.OK || got.Cmp(want) != 0 || neg != (want.Sign() < 0) || len(n.Limbs) != len(natOf(want).Limbs) {
		t.Errorf("Floor of %s: %v, %s, error %d", brief(x.Num())+"/"+brief(x.Denom()), neg, brief(got), int(e))
	}
}

func TestP24P26SignsAndFloors(t *testing.T) {
	for _, s := range []string{"0", "1", "-1", "1/2", "-1/2", "7/2", "-7/2", "-4", "4", "-9/10", "4294967295/2", "-8589934591/2", "-18446744073709551615/18446744073709551616"} {
		checkSigns(t, frac(t, s))
		checkFloor(t, frac(t, s))
	}
	r := source(9)
	for range 1000 {
		a := some(r, 6)
		checkSigns(t, a)
		checkFloor(t, a)
	}
	empty := api.Ratio{Num: api.Nat{Limbs: []uint32{}}, Den: limbs(1)}
	checkSigns(t, empty)
	checkFloor(t, empty)
}

func TestP24P26AtTheLimit(t *testing.T) {
	t.Parallel()
	great := plus(beyond(), -1)
	below := new(big.Int).Neg(great)
	for _, a := range []api.Ratio{
		over(great, big.NewInt(1)),
		over(below, big.NewInt(1)),
		over(below, big.NewInt(2)),
		over(below, plus(great, -1)),
		over(plus(below, 1), great),
		over(big.NewInt(-1), great),
	} {
		checkSigns(t, a)
		checkFloor(t, a)
	}
}
