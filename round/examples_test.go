package round

import (
	"slices"
	"testing"

	"numeral/api"
	"numeral/nat"
	"numeral/ratio"
)

var (
	tiny   = form(2, 1)
	half   = form(5, 10)
	single = form(8, 23)
	double = form(11, 52)
)

// parsed is a fraction by its text.
func parsed(t *testing.T, s string) api.Ratio {
	t.Helper()
	r, _, e := ratio.Parse(s)
	if e != api.OK {
		t.Fatal(s, int(e))
	}
	return r
}

func TestExamplesOfRatio(t *testing.T) {
	for _, c := range []struct {
		f    api.Form
		s    string
		neg  bool
		mode uint8
		want told
	}{
		{tiny, "5/4", false, api.Even, told{2, inexact, 0}},
		{tiny, "5/4", false, api.Away, told{3, inexact, 0}},
		{tiny, "5/4", false, api.Zero, told{2, inexact, 0}},
		{tiny, "5/4", false, api.Up, told{3, inexact, 0}},
		{tiny, "5/4", false, api.Down, told{2, inexact, 0}},
		{tiny, "7/2", false, api.Even, told{6, overflow, 0}},
		{tiny, "7/2", false, api.Zero, told{5, inexact, 0}},
		{tiny, "7/2", false, api.Up, told{6, overflow, 0}},
		{tiny, "-7/2", false, api.Up, told{0xd, inexact, 0}},
		{tiny, "-7/2", false, api.Down, told{0xe, overflow, 0}},
		{tiny, "13/4", false, api.Even, told{5, inexact, 0}},
		{tiny, "13/4", false, api.Up, told{6, overflow, 0}},
		{tiny, "1/4", false, api.Even, told{0, underflow, 0}},
		{tiny, "1/4", false, api.Away, told{1, underflow, 0}},
		{tiny, "1/4", false, api.Zero, told{0, underflow, 0}},
		{tiny, "1/4", false, api.Up, told{1, underflow, 0}},
		{tiny, "1/4", false, api.Down, told{0, underflow, 0}},
		{tiny, "7/8", false, api.Even, told{2, inexact, 0}},
		{tiny, "7/8", false, api.Zero, told{1, underflow, 0}},
		{tiny, "1/2", false, api.Zero, told{1, 0, 0}},
		{half, "-1/3", false, api.Even, told{0xb555, inexact, 0}},
		{double, "1/10", false, api.Even, told{0x3fb999999999999a, inexact, 0}},
		{single, "0", true, api.Up, told{0x80000000, 0, 0}},
		{single, "0", false, api.Down, told{0, 0, 0}},
	} {
		if got := tell(Ratio(c.f, parsed(t, c.s), c.neg, c.mode)); got != c.want {
			t.Errorf("Ratio(%v, %s, %v, %d): %v, want %v", c.f, c.s, c.neg, c.mode, got, c.want)
		}
	}
	wrong := api.Ratio{Num: nat.Of(2), Den: nat.Of(4)}
	refused(t, "Ratio({1, 5}, 2/4, 9)", tell(Ratio(form(1, 5), wrong, false, 9)), api.ErrForm)
	refused(t, "Ratio(T, 2/4, 9)", tell(Ratio(tiny, wrong, false, 9)), api.ErrRatio)
	refused(t, "Ratio(T, 1/2, 5)", tell(Ratio(tiny, parsed(t, "1/2"), false, 5)), api.ErrMode)
}

func TestExamplesOfDyadicAndScaled(t *testing.T) {
	least := api.Dyadic{Mant: nat.Of(1), Exp: -1075}
	if got := tell(Dyadic(double, least, false, api.Even)); got != (told{0, underflow, 0}) {
		t.Error("Dyadic(Double, 1 times 2^-1075, Even):", got)
	}
	if got := tell(Dyadic(double, least, false, api.Up)); got != (told{1, underflow, 0}) {
		t.Error("Dyadic(Double, 1 times 2^-1075, Up):", got)
	}
	for _, c := range []struct {
		s    string
		n    int
		mode uint8
		want told
	}{
		{"1/1", 23, api.Even, told{0x44b52d02c7e14af6, inexact, 0}},
		{"5/1", -324, api.Even, told{1, underflow, 0}},
		{"1/1", 1 << 60, api.Zero, told{0x7fefffffffffffff, overflow, 0}},
		{"-1/1", -1 << 60, api.Down, told{0x8000000000000001, underflow, 0}},
	} {
		if got := tell(Scaled(double, parsed(t, c.s), c.n, false, c.mode)); got != c.want {
			t.Errorf("Scaled(Double, %s, %d, %d): %v, want %v", c.s, c.n, c.mode, got, c.want)
		}
	}
}

func TestExamplesOfWhole(t *testing.T) {
	for _, c := range []struct {
		s     string
		mode  uint8
		neg   bool
		n     uint64
		exact bool
	}{
		{"5/2", api.Even, false, 2, false},
		{"-5/2", api.Even, true, 2, false},
		{"-5/2", api.Away, true, 3, false},
		{"-1/2", api.Up, false, 0, false},
		{"-1/2", api.Down, true, 1, false},
		{"7/1", api.Zero, false, 7, true},
	} {
		neg, n, exact, e := Whole(parsed(t, c.s), c.mode)
		if neg != c.neg || !slices.Equal(n.Limbs, nat.Of(c.n).Limbs) || exact != c.exact || e != api.OK {
			t.Errorf("Whole(%s, %d): %v, %v, %v, error %d", c.s, c.mode, neg, n, exact, int(e))
		}
	}
}

func TestExamplesOfNames(t *testing.T) {
	if s, e := Name(4); s != "down" || e != api.OK {
		t.Errorf("Name(4): %q, error %d", s, int(e))
	}
	if s, e := Name(5); s != "" || e != api.ErrMode {
		t.Errorf("Name(5): %q, error %d", s, int(e))
	}
	if mode, ok := Named("away"); mode != 1 || !ok {
		t.Error("Named(away):", mode, ok)
	}
	if mode, ok := Named("Even"); mode != 0 || ok {
		t.Error("Named(Even):", mode, ok)
	}
}
