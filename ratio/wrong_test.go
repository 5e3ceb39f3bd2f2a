package ratio

import (
	"math"
	"testing"

	"numeral/api"
)

type binary struct {
	name string
	do   func(a, b api.Ratio) (api.Ratio, api.Errno)
}

func binaries() []binary {
	return []binary{{"Add", Add}, {"Sub", Sub}, {"Mul", Mul}, {"Div", Div}}
}

// Wrong fractions come ahead of all else: of nought below, of powers of 0, of what would be too long.
func TestP22toP27WrongFractions(t *testing.T) {
	for what, wrong := range wrongFractions() {
		for _, good := range []api.Ratio{frac(t, "0"), frac(t, "-1/2"), {Num: natOf(plus(beyond(), -1)), Den: limbs(1)}} {
			for _, c := range binaries() {
				got, e := c.do(wrong, good)
				refused(t, c.name+" of "+what+", first", got, e, api.ErrRatio)
				got, e = c.do(good, wrong)
				refused(t, c.name+" of "+what+", second", got, e, api.ErrRatio)
				got, e = c.do(wrong, wrong)
				refused(t, c.name+" of "+what+", twice", got, e, api.ErrRatio)
			}
			for _, p := range [][2]api.Ratio{{wrong, good}, {good, wrong}, {wrong, wrong}} {
				if n, e := Cmp(p[0], p[1]); n != 0 || e != api.ErrRatio {
					t.Errorf("Cmp of %s: %d, error %d", what, n, int(e))
				}
			}
		}
		got, e := Neg(wrong)
		refused(t, "Neg of "+what, got, e, api.ErrRatio)
		got, e = Abs(wrong)
		refused(t, "Abs of "+what, got, e, api.ErrRatio)
		for _, n := range []int{0, 1, -1, math.MaxInt, math.MinInt} {
			for _, b := range []uint32{0, 1, 10} {
				got, e = Scale(wrong, b, n)
				refused(t, "Scale of "+what, got, e, api.ErrRatio)
			}
		}
		neg, n, e := Floor(wrong)
		if neg || len(n.Limbs) != 0 || e != api.ErrRatio {
			t.Errorf("Floor of %s: %v, %d limbs, error %d", what, neg, len(n.Limbs), int(e))
		}
		if s, e := Text(wrong); s != "" || e != api.ErrRatio {
			t.Errorf("Text of %s: %q, error %d", what, s, int(e))
		}
	}
}
