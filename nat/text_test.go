package nat

import (
	"math/big"
	"strings"
	"testing"

	"numeral/api"
)

func checkText(t *testing.T, a api.Nat) {
	t.Helper()
	want := asBig(a).String()
	if got, e := Text(a); got != want || e != api.OK {
		t.Errorf("Text: error %d, %d bytes; want %.200s (%d bytes)", int(e), len(got), want, len(want))
	}
	if len(want) > api.MaxText {
		return
	}
	b, at, e := Parse(want)
	same(t, "Parse", b, e, asBig(a))
	if at != 0 {
		t.Error("Parse: the place", at, "beside OK")
	}
}

func TestP18Texts(t *testing.T) {
	for _, a := range append(edges(3), number(t, "100000000000000000000"), greatest()) {
		checkText(t, a)
	}
	ten := big.NewInt(1)
	for range 200 {
		checkText(t, fromBig(ten))
		checkText(t, fromBig(new(big.Int).Sub(ten, big.NewInt(1))))
		checkText(t, fromBig(new(big.Int).Add(ten, big.NewInt(1))))
		ten.Mul(ten, big.NewInt(10))
	}
	r := source(19)
	for range 500 {
		checkText(t, some(r, 30))
	}
}

func TestP18Parse(t *testing.T) {
	for _, c := range []struct {
		s, want string
		at      int
		e       api.Errno
	}{
		{"007", "7", 0, api.OK},
		{"0", "0", 0, api.OK},
		{strings.Repeat("0", 40), "0", 0, api.OK},
		{strings.Repeat("0", 40) + "12345678901234567890", "12345678901234567890", 0, api.OK},
		{"", "", 0, api.ErrSyntax},
		{"1_0", "", 1, api.ErrSyntax},
		{"+1", "", 0, api.ErrSyntax},
		{"-1", "", 0, api.ErrSyntax},
		{" 1", "", 0, api.ErrSyntax},
		{"1 ", "", 1, api.ErrSyntax},
		{"12/", "", 2, api.ErrSyntax},
		{"12:", "", 2, api.ErrSyntax},
		{"1\x00", "", 1, api.ErrSyntax},
		{"1\xff2x", "", 1, api.ErrSyntax},
		{"12\u0661", "", 2, api.ErrSyntax},
		{strings.Repeat("9", 30) + "e5", "", 30, api.ErrSyntax},
	} {
		a, at, e := Parse(c.s)
		if at != c.at || e != c.e {
			t.Errorf("Parse(%q): place %d, error %d; want %d, %d", c.s, at, int(e), c.at, int(c.e))
		}
		if c.e != api.OK {
			refused(t, c.s, a, e, c.e)
			continue
		}
		same(t, c.s, a, e, asBig(number(t, c.want)))
	}
}

func TestP18Long(t *testing.T) {
	for _, s := range []string{strings.Repeat("9", api.MaxText), strings.Repeat("0", api.MaxText), strings.Repeat("0", api.MaxText-1) + "7"} {
		a, at, e := Parse(s)
		same(t, "Parse of MaxText digits", a, e, asBig(number(t, s)))
		if at != 0 {
			t.Error("the place", at, "beside OK")
		}
	}
	for _, s := range []string{strings.Repeat("9", api.MaxText+1), strings.Repeat("x", api.MaxText+1), "1" + strings.Repeat("_", api.MaxText)} {
		a, at, e := Parse(s)
		refused(t, "Parse of more than MaxText bytes", a, e, api.ErrText)
		if at != 0 {
			t.Error("ErrText is at 0; got", at)
		}
	}
	_, at, e := Parse(strings.Repeat("9", api.MaxText-1) + "x")
	if at != api.MaxText-1 || e != api.ErrSyntax {
		t.Error("a fault at the last byte:", at, int(e))
	}
}
