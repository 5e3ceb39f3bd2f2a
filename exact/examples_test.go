package exact

import (
	"testing"

	"numeral/api"
)

func TestExamplesOfMakeAndCheck(t *testing.T) {
	for _, c := range []struct {
		what string
		neg  bool
		n    uint32
		exp  int
		want api.Dyadic
		e    api.Errno
	}{
		{"Make(no, 12, 0)", false, 12, 0, dy(3, 2), api.OK},
		{"Make(no, 1, 2^30)", false, 1, 1 << 30, dy(1, 1<<30), api.OK},
		{"Make(no, 2, 2^30)", false, 2, 1 << 30, api.Dyadic{}, api.ErrMany},
		{"Make(no, 1, 2^62)", false, 1, 1 << 62, api.Dyadic{}, api.ErrMany},
	} {
		got, e := Make(c.neg, limbs(c.n), c.exp)
		wants(t, c.what, got, e, c.want, c.e)
	}
	got, e := Make(true, limbs(), 7)
	wants(t, "Make(yes, 0, 7)", got, e, api.Dyadic{}, api.OK)
	for _, d := range []api.Dyadic{dy(2, 0), dy(0, 1), {Neg: true}, dy(1, 1<<30+1)} {
		if e := Check(d); e != api.ErrDyadic {
			t.Errorf("Check of %s: error %d", show(d), int(e))
		}
	}
}

func TestExamplesOfFloats(t *testing.T) {
	half, double := form(5, 10), form(11, 52)
	for _, c := range []struct {
		f    api.Form
		bits uint64
		want api.Dyadic
		e    api.Errno
	}{
		{double, 0x3ff8000000000000, dy(3, -1), api.OK},
		{double, 1, dy(1, -1074), api.OK},
		{double, 0x8000000000000000, api.Dyadic{}, api.OK},
		{half, 0x7bff, dy(2047, 5), api.OK},
		{half, 0x7c00, api.Dyadic{}, api.ErrFinite},
		{half, 0x10000, api.Dyadic{}, api.ErrBits},
		{form(1, 5), 0, api.Dyadic{}, api.ErrForm},
	} {
		got, e := Value(c.f, c.bits)
		wants(t, "Value", got, e, c.want, c.e)
	}
	checkBits(t, half, dy(2047, 5), 0x7bff, true)
	checkBits(t, half, dy(1, -24), 1, true)
	checkBits(t, half, dy(1, -25), 0, false)
	checkBits(t, half, dy(1, 16), 0, false)
	checkBits(t, half, dy(2049, 0), 0, false)
	checkBits(t, half, api.Dyadic{}, 0, true)
}

func TestExamplesOfSumsAndProducts(t *testing.T) {
	checkCmp(t, dy(1, 1<<30), dy(5, 0), 1)
	checkCmp(t, dy(-1, 3), dy(-5, 1), 1)
	checkCmp(t, api.Dyadic{}, dy(-1, 0), 1)
	for _, c := range []struct {
		name string
		do   func(a, b api.Dyadic) (api.Dyadic, api.Errno)
		a, b api.Dyadic
		want api.Dyadic
		e    api.Errno
	}{
		{"Add", Add, dy(3, 2), dy(-3, 0), dy(9, 0), api.OK},
		{"Add", Add, dy(1, 0), dy(-1, 0), api.Dyadic{}, api.OK},
		{"Add", Add, dy(1, 1<<30), dy(1, 0), api.Dyadic{}, api.ErrMany},
		{"Add", Add, dy(1, 524288), dy(1, 0), api.Dyadic{}, api.ErrMany},
		{"Mul", Mul, dy(3, -1), dy(-5, 4), dy(-15, 3), api.OK},
		{"Mul", Mul, dy(1, 1<<30), dy(1, 1), api.Dyadic{}, api.ErrMany},
	} {
		got, e := c.do(c.a, c.b)
		wants(t, c.name+"("+show(c.a)+", "+show(c.b)+")", got, e, c.want, c.e)
	}
}

func TestExamplesOfFractions(t *testing.T) {
	threeQuarters := api.Ratio{Neg: true, Num: limbs(3), Den: limbs(4)}
	twelve := api.Ratio{Num: limbs(12), Den: limbs(1)}
	got, e := Ratio(dy(-3, -2))
	wantsRatio(t, "Ratio(-3 x 2^-2)", got, e, threeQuarters, api.OK)
	got, e = Ratio(dy(3, 2))
	wantsRatio(t, "Ratio(3 x 2^2)", got, e, twelve, api.OK)
	got, e = Ratio(dy(1, -524288))
	wantsRatio(t, "Ratio(1 x 2^-524288)", got, e, api.Ratio{}, api.ErrMany)
	checkOf(t, "-3/4", threeQuarters, dy(-3, -2), true, api.OK)
	checkOf(t, "1/3", api.Ratio{Num: limbs(1), Den: limbs(3)}, api.Dyadic{}, false, api.OK)
	checkOf(t, "12", twelve, dy(3, 2), true, api.OK)
}
