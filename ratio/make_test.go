package ratio

import (
	"math"
	"math/big"
	"testing"

	"numeral/api"
)

// tooLong has one limb more than a whole number may have.
func tooLong() api.Nat { return natOf(beyond()) }

// wrongFractions are of each kind that may not be.
func wrongFractions() map[string]api.Ratio {
	shared := new(big.Int).Add(power(2, 70), big.NewInt(7))
	return map[string]api.Ratio{
		"2/4":                             {Num: limbs(2), Den: limbs(4)},
		"-2/4":                            {Neg: true, Num: limbs(2), Den: limbs(4)},
		"4/2":                             {Num: limbs(4), Den: limbs(2)},
		"5/5":                             {Num: limbs(5), Den: limbs(5)},
		"a long common divisor":           {Num: natOf(times(shared, power(3, 50))), Den: natOf(times(shared, power(10, 40)))},
		"-0/1":                            {Neg: true, Den: limbs(1)},
		"0/2":                             {Den: limbs(2)},
		"-0/2":                            {Neg: true, Den: limbs(2)},
		"0/2^32":                          {Den: limbs(0, 1)},
		"1/0":                             {Num: limbs(1)},
		"-1/0":                            {Neg: true, Num: limbs(1)},
		"the zero Ratio":                  {},
		"Num's last limb is 0":            {Num: limbs(1, 0), Den: limbs(3)},
		"nought written with a limb":      {Num: limbs(0), Den: limbs(1)},
		"Den's last limb is 0":            {Num: limbs(1), Den: limbs(3, 0)},
		"Den is a limb 0":                 {Num: limbs(1), Den: limbs(0)},
		"Num of too many limbs":           {Num: tooLong(), Den: limbs(1)},
		"Den of too many limbs":           {Num: limbs(1), Den: tooLong()},
		"Den of too many limbs, all of 0": {Num: limbs(1), Den: api.Nat{Limbs: make([]uint32, api.MaxLimbs+1)}},
	}
}

func TestP21Make(t *testing.T) {
	r := source(1)
	for range 2000 {
		num, den := someNat(r, 6), plus(someNat(r, 6), 1)
		factor := someNat(r, 3)
		if r.IntN(2) == 0 && factor.Sign() > 0 {
			num.Mul(num, factor)
			den.Mul(den, factor)
		}
		want := new(big.Rat).SetFrac(num, den)
		got, e := Make(false, natOf(num), natOf(den))
		same(t, "Make", got, e, want)
		got, e = Make(true, natOf(num), natOf(den))
		same(t, "Make, below nought", got, e, want.Neg(want))
	}
}

func TestP21MakeEdges(t *testing.T) {
	greatest := natOf(plus(beyond(), -1))
	for _, c := range []struct {
		what     string
		neg      bool
		num, den api.Nat
		want     string
		e        api.Errno
	}{
		{"6/4", false, limbs(6), limbs(4), "3/2", api.OK},
		{"-6/4", true, limbs(6), limbs(4), "-3/2", api.OK},
		{"-0/7", true, limbs(), limbs(7), "0", api.OK},
		{"0/7", false, api.Nat{}, limbs(7), "0", api.OK},
		{"1/0", false, limbs(1), limbs(), "", api.ErrZero},
		{"0/0", true, limbs(), limbs(), "", api.ErrZero},
		{"a last limb 0 over nought", false, limbs(1, 0), limbs(), "", api.ErrNat},
		{"over a last limb 0", false, limbs(1), limbs(1, 0), "", api.ErrNat},
		{"nought over a limb 0", false, limbs(), limbs(0), "", api.ErrNat},
		{"too long, over nought", false, tooLong(), limbs(), "", api.ErrMany},
		{"over what is too long", false, limbs(), tooLong(), "", api.ErrMany},
		{"too long, over a last limb 0", false, tooLong(), limbs(1, 0), "", api.ErrMany},
		{"a last limb 0 over what is too long", false, limbs(1, 0), tooLong(), "", api.ErrNat},
		{"too long, though a fraction of few limbs", false, tooLong(), tooLong(), "", api.ErrMany},
		{"greatest over greatest", true, greatest, greatest, "-1", api.OK},
	} {
		got, e := Make(c.neg, c.num, c.den)
		if c.e != api.OK {
			refused(t, c.what, got, e, c.e)
			continue
		}
		same(t, c.what, got, e, asRat(frac(t, c.want)))
	}
	got, e := Make(true, greatest, limbs(1))
	same(t, "Make of MaxLimbs limbs over 1", got, e, new(big.Rat).SetInt(new(big.Int).Neg(asBig(greatest))))
	got, e = Make(false, limbs(1), greatest)
	same(t, "Make of 1 over MaxLimbs limbs", got, e, new(big.Rat).SetFrac(big.NewInt(1), asBig(greatest)))
}

func TestP21Check(t *testing.T) {
	for what, r := range wrongFractions() {
		if e := Check(r); e != api.ErrRatio {
			t.Errorf("Check of %s: error %d", what, int(e))
		}
	}
	greatest := plus(beyond(), -1)
	for what, r := range map[string]api.Ratio{
		"0, nil limbs":       {Den: limbs(1)},
		"0, empty limbs":     {Num: api.Nat{Limbs: []uint32{}}, Den: limbs(1)},
		"1":                  {Num: limbs(1), Den: limbs(1)},
		"-3/2":               {Neg: true, Num: limbs(3), Den: limbs(2)},
		"2^32/3":             {Num: limbs(0, 1), Den: limbs(3)},
		"1/2^32":             {Num: limbs(1), Den: limbs(0, 1)},
		"MaxLimbs over 1":    {Num: natOf(greatest), Den: limbs(1)},
		"1 over MaxLimbs":    {Num: limbs(1), Den: natOf(greatest)},
		"MaxLimbs over both": {Neg: true, Num: natOf(greatest), Den: natOf(plus(greatest, -1))},
	} {
		if e := Check(r); e != api.OK {
			t.Errorf("Check of %s: error %d", what, int(e))
		}
	}
	r := source(2)
	for range 500 {
		if e := Check(some(r, 6)); e != api.OK {
			t.Errorf("Check: error %d", int(e))
		}
	}
}

func TestP21Whole(t *testing.T) {
	for _, n := range []int{0, 1, -1, -3, 7, 1 << 32, -1 << 32, math.MaxInt, -math.MaxInt, math.MinInt} {
		same(t, "Whole", Whole(n), api.OK, new(big.Rat).SetInt64(int64(n)))
	}
	if got, _ := Text(Whole(math.MinInt64)); got != "-9223372036854775808" {
		t.Error("Whole of the least int:", got)
	}
}
