package ratio

import (
	"math"
	"testing"

	"numeral/api"
)

// said holds an answer to what the chapter's table says of it: a text, or an error.
func said(t *testing.T, call string, got api.Ratio, e api.Errno, want string, wantErr api.Errno) {
	t.Helper()
	if wantErr != api.OK {
		refused(t, call, got, e, wantErr)
		return
	}
	if e != api.OK || !sameFields(got, frac(t, want)) {
		t.Errorf("%s: %v %v/%v, error %d; want %s", call, got.Neg, got.Num.Limbs, got.Den.Limbs, int(e), want)
	}
}

func TestExamplesOfMakeAndWhole(t *testing.T) {
	r, e := Make(false, limbs(6), limbs(4))
	said(t, "Make(no, 6, 4)", r, e, "3/2", api.OK)
	r, e = Make(true, limbs(), limbs(7))
	said(t, "Make(yes, 0, 7)", r, e, "0", api.OK)
	r, e = Make(false, limbs(1), limbs())
	said(t, "Make(no, 1, 0)", r, e, "", api.ErrZero)
	r, e = Make(false, limbs(1, 0), limbs())
	said(t, "Make(no, a last limb 0, 0)", r, e, "", api.ErrNat)
	for _, r := range []api.Ratio{{Num: limbs(2), Den: limbs(4)}, {Neg: true, Den: limbs(1)}, {Den: limbs(2)}, {Num: limbs(1)}, {}} {
		if e := Check(r); e != api.ErrRatio {
			t.Error("Check:", int(e))
		}
	}
	said(t, "Whole(-3)", Whole(-3), api.OK, "-3", api.OK)
	said(t, "Whole(the least int)", Whole(math.MinInt64), api.OK, "-9223372036854775808", api.OK)
}

func TestExamplesOfOperations(t *testing.T) {
	for _, c := range []struct {
		a, b string
		want int
	}{{"-1/2", "-1/3", -1}, {"2/3", "2/3", 0}, {"0", "-1/9", 1}} {
		if got, e := Cmp(frac(t, c.a), frac(t, c.b)); got != c.want || e != api.OK {
			t.Errorf("Cmp(%s, %s): %d, error %d", c.a, c.b, got, int(e))
		}
	}
	for _, c := range []struct {
		name string
		do   func(a, b api.Ratio) (api.Ratio, api.Errno)
		a, b string
		want string
		e    api.Errno
	}{
		{"Add", Add, "1/2", "1/3", "5/6", api.OK},
		{"Sub", Sub, "1/2", "1/2", "0", api.OK},
		{"Mul", Mul, "2/3", "-3/4", "-1/2", api.OK},
		{"Div", Div, "1/2", "-1/4", "-2", api.OK},
		{"Div", Div, "1/2", "0", "", api.ErrZero},
	} {
		r, e := c.do(frac(t, c.a), frac(t, c.b))
		said(t, c.name, r, e, c.want, c.e)
	}
	r, e := Neg(frac(t, "0"))
	said(t, "Neg(0)", r, e, "0", api.OK)
	r, e = Neg(frac(t, "1/2"))
	said(t, "Neg(1/2)", r, e, "-1/2", api.OK)
	r, e = Abs(frac(t, "-1/2"))
	said(t, "Abs(-1/2)", r, e, "1/2", api.OK)
}

func TestExamplesOfScaleAndFloor(t *testing.T) {
	for _, c := range []struct {
		a    string
		b    uint32
		n    int
		want string
		e    api.Errno
	}{
		{"3/4", 10, 2, "75", api.OK},
		{"3/4", 10, -1, "3/40", api.OK},
		{"3/4", 0, 0, "3/4", api.OK},
		{"3/4", 0, 5, "0", api.OK},
		{"0", 0, -1, "", api.ErrZero},
		{"1", 2, 1 << 40, "", api.ErrMany},
		{"1", 1, -1 << 40, "1", api.OK},
		{"0", 7, 1 << 40, "0", api.OK},
	} {
		r, e := Scale(frac(t, c.a), c.b, c.n)
		said(t, "Scale of "+c.a, r, e, c.want, c.e)
	}
	for _, c := range []struct {
		a    string
		neg  bool
		want uint64
	}{{"7/2", false, 3}, {"-7/2", true, 4}, {"-4", true, 4}, {"0", false, 0}} {
		neg, n, e := Floor(frac(t, c.a))
		if neg != c.neg || asBig(n).Uint64() != c.want || e != api.OK {
			t.Errorf("Floor(%s): %v, %v, error %d", c.a, neg, n.Limbs, int(e))
		}
	}
}

func TestExamplesOfTexts(t *testing.T) {
	for _, s := range []string{"-3/2", "4", "0"} {
		if got, e := Text(frac(t, s)); got != s || e != api.OK {
			t.Errorf("Text(%s): %s, error %d", s, got, int(e))
		}
	}
	for s, want := range map[string]string{"006/4": "3/2", "-0": "0", "-0/5": "0"} {
		r, _, e := Parse(s)
		said(t, "Parse("+s+")", r, e, want, api.OK)
	}
	for s, at := range map[string]int{"": 0, "-": 1, "1/": 2, "1/x": 2, "+1": 0, "1/-2": 2, "1/2 ": 3} {
		wantFault(t, s, at, api.ErrSyntax)
	}
	wantFault(t, "3/00", 2, api.ErrZero)
}
