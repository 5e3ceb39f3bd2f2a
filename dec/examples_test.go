package dec

import (
	"testing"

	"numeral/api"
	"numeral/nat"
)

// Every row of the chapter's Examples.

func TestExamplesOfMakeAndCheck(t *testing.T) {
	for _, c := range []struct {
		neg    bool
		digits string
		exp    int
		want   api.Dec
		e      api.Errno
	}{
		{false, "00120", 3, dc("12", 4), api.OK},
		{true, "000", 7, dc("-", 0), api.OK},
		{false, "1x", 0, api.Dec{}, api.ErrDec},
		{false, "", 0, api.Dec{}, api.OK},
		{false, "1", 1 << 62, api.Dec{}, api.ErrMany},
	} {
		got, e := Make(c.neg, c.digits, c.exp)
		wants(t, "Make of "+c.digits, got, e, c.want, c.e)
	}
	for _, d := range []api.Dec{dc("10", 0), dc("012", 0), dc("", 1), dc("1", 1<<30+1), dc("+1", 0)} {
		if e := Check(d); e != api.ErrDec {
			t.Errorf("Check of %s: error %d", show(d), int(e))
		}
	}
}

func TestExamplesOfCmp(t *testing.T) {
	checkCmp(t, dc("12", 0), dc("2", 1), -1)
	checkCmp(t, dc("-5", -1), dc("-5", 0), 1)
	checkCmp(t, dc("-", 0), dc("", 0), 0)
}

func TestExamplesOfFractions(t *testing.T) {
	over := func(num, den uint64) api.Ratio { return api.Ratio{Num: nat.Of(num), Den: nat.Of(den)} }
	got, e := Ratio(dc("5", -1))
	wantsRatio(t, "Ratio(5 e -1)", got, e, over(1, 2), api.OK)
	got, e = Ratio(dc("12", 1))
	wantsRatio(t, "Ratio(12 e 1)", got, e, over(120, 1), api.OK)
	got, e = Ratio(dc("1", -1<<30))
	wantsRatio(t, "Ratio(1 e -2^30)", got, e, api.Ratio{}, api.ErrMany)
	d, ok, e := Of(over(1, 8))
	wantsTold(t, "Of(1/8)", d, ok, e, dc("125", -3), true, api.OK)
	d, ok, e = Of(over(1, 3))
	wantsTold(t, "Of(1/3)", d, ok, e, api.Dec{}, false, api.OK)
	d, ok, e = Of(over(1200, 1))
	wantsTold(t, "Of(1200)", d, ok, e, dc("12", 2), true, api.OK)
}

func TestExamplesOfRounding(t *testing.T) {
	for _, c := range []struct {
		what string
		do   func(d api.Dec, n int, mode uint8) (api.Dec, bool, api.Errno)
		d    api.Dec
		n    int
		mode uint8
		want api.Dec
		ok   bool
		e    api.Errno
	}{
		{"Round(125 e 0, 2, Even)", Round, dc("125", 0), 2, api.Even, dc("12", 1), false, api.OK},
		{"Round(135 e 0, 2, Even)", Round, dc("135", 0), 2, api.Even, dc("14", 1), false, api.OK},
		{"Round(125 e 0, 2, Away)", Round, dc("125", 0), 2, api.Away, dc("13", 1), false, api.OK},
		{"Round(-129 e 0, 2, Up)", Round, dc("-129", 0), 2, api.Up, dc("-12", 1), false, api.OK},
		{"Round(999 e 5, 2, Up)", Round, dc("999", 5), 2, api.Up, dc("1", 8), false, api.OK},
		{"Round(5 e 0, 9, Even)", Round, dc("5", 0), 9, api.Even, dc("5", 0), true, api.OK},
		{"Places(5 e -1, 0, Even)", Places, dc("5", -1), 0, api.Even, dc("", 0), false, api.OK},
		{"Places(15 e -1, 0, Even)", Places, dc("15", -1), 0, api.Even, dc("2", 0), false, api.OK},
		{"Places(-1 e -9, 3, Even)", Places, dc("-1", -9), 3, api.Even, dc("-", 0), false, api.OK},
		{"Places(-1 e -9, 3, Down)", Places, dc("-1", -9), 3, api.Down, dc("-1", -3), false, api.OK},
		{"Places(12 e 5, 0, Zero)", Places, dc("12", 5), 0, api.Zero, dc("12", 5), true, api.OK},
		{"Round(1 e 0, 0, 9)", Round, dc("1", 0), 0, 9, api.Dec{}, false, api.ErrPlaces},
		{"Places(1 e 0, 2001, 9)", Places, dc("1", 0), 2001, 9, api.Dec{}, false, api.ErrPlaces},
		{"Round(1 e 0, 1, 9)", Round, dc("1", 0), 1, 9, api.Dec{}, false, api.ErrMode},
	} {
		got, ok, e := c.do(c.d, c.n, c.mode)
		wantsTold(t, c.what, got, ok, e, c.want, c.ok, c.e)
	}
}

func TestExamplesOfSums(t *testing.T) {
	for _, c := range []struct {
		name string
		do   func(a, b api.Dec) (api.Dec, api.Errno)
		a, b api.Dec
		want api.Dec
		e    api.Errno
	}{
		{"Add", Add, dc("95", -1), dc("5", -1), dc("1", 1), api.OK},
		{"Add", Add, dc("1", 0), dc("-1", 0), dc("", 0), api.OK},
		{"Add", Add, dc("1", 65536), dc("1", 0), api.Dec{}, api.ErrMany},
		{"Mul", Mul, dc("25", 0), dc("4", 0), dc("1", 2), api.OK},
		{"Mul", Mul, dc("-", 0), dc("3", 0), dc("-", 0), api.OK},
	} {
		got, e := c.do(c.a, c.b)
		wants(t, c.name+"("+show(c.a)+", "+show(c.b)+")", got, e, c.want, c.e)
	}
	got, e := Shift(dc("3", 1), -4)
	wants(t, "Shift(3 e 1, -4)", got, e, dc("3", -3), api.OK)
	got, e = Shift(dc("", 0), 1<<62)
	wants(t, "Shift(nought, 2^62)", got, e, dc("", 0), api.OK)
}

func TestExamplesOfTexts(t *testing.T) {
	for _, c := range []struct {
		name string
		do   func(d api.Dec) (string, api.Errno)
		d    api.Dec
		want string
		e    api.Errno
	}{
		{"Plain", Plain, dc("125", -1), "12.5", api.OK},
		{"Plain", Plain, dc("5", -2), "0.05", api.OK},
		{"Plain", Plain, dc("12", 2), "1200", api.OK},
		{"Plain", Plain, dc("-", 0), "-0", api.OK},
		{"Plain", Plain, dc("1", 65536), "", api.ErrMany},
		{"Scientific", Scientific, dc("125", -1), "1.25e1", api.OK},
		{"Scientific", Scientific, dc("-5", -2), "-5e-2", api.OK},
		{"Scientific", Scientific, dc("", 0), "0e0", api.OK},
		{"Scientific", Scientific, dc("12", 2), "1.2e3", api.OK},
	} {
		got, e := c.do(c.d)
		wantsText(t, c.name+"("+show(c.d)+")", got, e, c.want, c.e)
	}
}
