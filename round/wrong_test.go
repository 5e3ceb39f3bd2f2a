package round

import (
	"math"
	"slices"
	"testing"

	"numeral/api"
	"numeral/nat"
)

func wrongForms() []api.Form {
	return []api.Form{{}, form(1, 5), form(12, 5), form(5, 0), form(5, 53), form(-1, -1), form(64, 64), form(math.MaxInt, math.MaxInt), form(math.MinInt, math.MinInt), form(1<<32+5, 10)}
}

var wrongModes = []uint8{5, 6, 7, 8, 128, 255}

func limbs(l ...uint32) api.Nat { return api.Nat{Limbs: l} }

func tooLong() api.Nat { return api.Nat{Limbs: slices.Repeat([]uint32{1}, api.MaxLimbs+1)} }

func wrongRatios() map[string]api.Ratio {
	one := nat.Of(1)
	return map[string]api.Ratio{
		"the zero Ratio":           {},
		"2/4":                      {Num: nat.Of(2), Den: nat.Of(4)},
		"-0/1":                     {Neg: true, Den: one},
		"0/2":                      {Den: nat.Of(2)},
		"1/0":                      {Num: one},
		"a last limb 0 above":      {Num: limbs(1, 0), Den: one},
		"a last limb 0 below":      {Num: one, Den: limbs(3, 0)},
		"nought written as a limb": {Num: limbs(0), Den: one},
		"too long above":           {Num: tooLong(), Den: one},
		"too long below":           {Num: one, Den: tooLong()},
	}
}

func wrongDyadics() map[string]api.Dyadic {
	one := nat.Of(1)
	return map[string]api.Dyadic{
		"2":                        {Mant: nat.Of(2)},
		"2^32":                     {Mant: limbs(0, 1)},
		"-0":                       {Neg: true},
		"nought x 2^1":             {Exp: 1},
		"beyond the upper end":     {Mant: one, Exp: api.MaxExp + 1},
		"beyond the lower end":     {Mant: one, Exp: -api.MaxExp - 1},
		"the greatest int":         {Mant: one, Exp: math.MaxInt},
		"the least int":            {Mant: one, Exp: math.MinInt},
		"a last limb 0":            {Mant: limbs(1, 0)},
		"nought written as a limb": {Mant: limbs(0)},
		"too long":                 {Mant: tooLong()},
		"too long, beyond the end": {Mant: tooLong(), Exp: api.MaxExp + 1},
	}
}

func refused(t *testing.T, what string, got told, e api.Errno) {
	t.Helper()
	if got != (told{e: e}) {
		t.Errorf("%s: %v; want the error %d and nothing else", what, got, int(e))
	}
}

// refusesFractions holds a call against all that is wrong in one place, and in that and all behind it.
func refusesFractions(t *testing.T, call func(f api.Form, r api.Ratio, neg bool, mode uint8) told) {
	t.Helper()
	good, third := form(5, 10), api.Ratio{Num: nat.Of(1), Den: nat.Of(3)}
	for _, neg := range []bool{false, true} {
		for _, f := range wrongForms() {
			refused(t, "a wrong form", call(f, third, neg, api.Even), api.ErrForm)
			refused(t, "a wrong form and mode", call(f, third, neg, 9), api.ErrForm)
			for what, r := range wrongRatios() {
				refused(t, "a wrong form and "+what, call(f, r, neg, api.Even), api.ErrForm)
				refused(t, "a wrong form and mode and "+what, call(f, r, neg, 9), api.ErrForm)
			}
		}
		for what, r := range wrongRatios() {
			refused(t, what, call(good, r, neg, api.Down), api.ErrRatio)
			refused(t, what+" and a wrong mode", call(good, r, neg, 5), api.ErrRatio)
		}
		for _, mode := range wrongModes {
			refused(t, "a wrong mode", call(good, third, neg, mode), api.ErrMode)
			refused(t, "a wrong mode beside nought", call(good, api.Ratio{Den: nat.Of(1)}, neg, mode), api.ErrMode)
			refused(t, "a wrong mode beside a float's worth", call(good, api.Ratio{Num: nat.Of(1), Den: nat.Of(1)}, neg, mode), api.ErrMode)
		}
	}
}

func TestP51RatioRefuses(t *testing.T) {
	refusesFractions(t, func(f api.Form, r api.Ratio, neg bool, mode uint8) told { return tell(Ratio(f, r, neg, mode)) })
}

func TestP53ScaledRefuses(t *testing.T) {
	for _, n := range []int{0, 7, -7, 1 << 60, math.MinInt} {
		refusesFractions(t, func(f api.Form, r api.Ratio, neg bool, mode uint8) told { return tell(Scaled(f, r, n, neg, mode)) })
	}
}

func TestP52DyadicRefuses(t *testing.T) {
	good, three := form(5, 10), api.Dyadic{Mant: nat.Of(3)}
	for _, neg := range []bool{false, true} {
		for _, f := range wrongForms() {
			refused(t, "a wrong form", tell(Dyadic(f, three, neg, api.Even)), api.ErrForm)
			refused(t, "a wrong form and mode", tell(Dyadic(f, three, neg, 9)), api.ErrForm)
			for what, d := range wrongDyadics() {
				refused(t, "a wrong form and "+what, tell(Dyadic(f, d, neg, api.Even)), api.ErrForm)
				refused(t, "a wrong form and mode and "+what, tell(Dyadic(f, d, neg, 9)), api.ErrForm)
			}
		}
		for what, d := range wrongDyadics() {
			refused(t, what, tell(Dyadic(good, d, neg, api.Down)), api.ErrDyadic)
			refused(t, what+" and a wrong mode", tell(Dyadic(good, d, neg, 5)), api.ErrDyadic)
		}
		for _, mode := range wrongModes {
			refused(t, "a wrong mode", tell(Dyadic(good, three, neg, mode)), api.ErrMode)
			refused(t, "a wrong mode beside nought", tell(Dyadic(good, api.Dyadic{}, neg, mode)), api.ErrMode)
		}
	}
}

func TestP54WholeRefuses(t *testing.T) {
	refusal := func(what string, r api.Ratio, mode uint8, want api.Errno) {
		t.Helper()
		if neg, n, exact, e := Whole(r, mode); neg || len(n.Limbs) != 0 || exact || e != want {
			t.Errorf("%s: %v, %v, %v, error %d; want error %d", what, neg, n, exact, int(e), int(want))
		}
	}
	for what, r := range wrongRatios() {
		refusal(what, r, api.Even, api.ErrRatio)
		refusal(what+" and a wrong mode", r, 5, api.ErrRatio)
	}
	for _, mode := range wrongModes {
		refusal("a wrong mode", api.Ratio{Neg: true, Num: nat.Of(5), Den: nat.Of(2)}, mode, api.ErrMode)
		refusal("a wrong mode beside a whole number", api.Ratio{Neg: true, Num: nat.Of(5), Den: nat.Of(1)}, mode, api.ErrMode)
	}
}
