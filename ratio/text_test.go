package ratio

import (
	"math/big"
	"strings"
	"testing"

	"numeral/api"
)

func checkText(t *testing.T, a api.Ratio) {
	t.Helper()
	want := asRat(a).RatString()
	if got, e := Text(a); got != want || e != api.OK {
		t.Errorf("Text: %.100s (%d bytes), error %d; want %.100s (%d bytes)", got, len(got), int(e), want, len(want))
	}
}

func TestP27Text(t *testing.T) {
	for _, s := range []string{"0", "1", "-1", "4", "-3/2", "3/2", "1/10", "-1/4294967296", "100000000000000000000", "-100000000000000000000/3"} {
		if got, e := Text(frac(t, s)); got != s || e != api.OK {
			t.Errorf("Text of %s: %q, error %d", s, got, int(e))
		}
	}
	r := source(10)
	for range 500 {
		checkText(t, some(r, 9))
	}
}

func TestP27TextHoweverLong(t *testing.T) {
	t.Parallel()
	great := plus(beyond(), -1)
	checkText(t, over(great, big.NewInt(1)))
	checkText(t, over(new(big.Int).Neg(plus(great, -1)), great))
}

func TestP27Parse(t *testing.T) {
	for _, c := range []struct{ s, want string }{
		{"0", "0"}, {"-0", "0"}, {"-0/5", "0"}, {"0/5", "0"}, {"000/0005", "0"},
		{"006/4", "3/2"}, {"-006/004", "-3/2"}, {"7", "7"}, {"-7", "-7"}, {"7/1", "7"}, {"-8/2", "-4"}, {"5/5", "1"},
		{"12345678901234567890123/10000000000000", "12345678901234567890123/10000000000000"},
	} {
		got, at, e := Parse(c.s)
		same(t, c.s, got, e, asRat(frac(t, c.want)))
		if at != 0 {
			t.Errorf("Parse(%q): the place %d beside OK", c.s, at)
		}
	}
}

func wantFault(t *testing.T, s string, wantAt int, want api.Errno) {
	t.Helper()
	got, at, e := Parse(s)
	refused(t, "Parse", got, e, want)
	if at != wantAt {
		t.Errorf("Parse(%.40q): error %d at %d, want it at %d", s, int(e), at, wantAt)
	}
}

func TestP27ParseFaults(t *testing.T) {
	for _, c := range []struct {
		s  string
		at int
		e  api.Errno
	}{
		{"", 0, api.ErrSyntax}, {"-", 1, api.ErrSyntax}, {"1/", 2, api.ErrSyntax}, {"-1/", 3, api.ErrSyntax},
		{"/", 0, api.ErrSyntax}, {"/2", 0, api.ErrSyntax}, {"-/2", 1, api.ErrSyntax}, {"--1", 1, api.ErrSyntax},
		{"x", 0, api.ErrSyntax}, {"1/x", 2, api.ErrSyntax}, {"1x/", 1, api.ErrSyntax}, {"12-", 2, api.ErrSyntax},
		{"+1", 0, api.ErrSyntax}, {"-+1", 1, api.ErrSyntax}, {"1/-2", 2, api.ErrSyntax}, {"1/+2", 2, api.ErrSyntax},
		{"1/2 ", 3, api.ErrSyntax}, {" 1/2", 0, api.ErrSyntax}, {"1 /2", 1, api.ErrSyntax}, {"1/ 2", 2, api.ErrSyntax},
		{"1//2", 2, api.ErrSyntax}, {"1/2/3", 3, api.ErrSyntax}, {"1/2/", 3, api.ErrSyntax},
		{"1.5", 1, api.ErrSyntax}, {"1_0", 1, api.ErrSyntax}, {"1e5", 1, api.ErrSyntax}, {"1:2", 1, api.ErrSyntax},
		{"1/2\x00", 3, api.ErrSyntax}, {"\xff", 0, api.ErrSyntax}, {"1\u0661", 1, api.ErrSyntax}, {"1\u2044" + "2", 1, api.ErrSyntax},
		{"x/0", 0, api.ErrSyntax}, {"1/0x", 3, api.ErrSyntax}, {"3/00 ", 4, api.ErrSyntax}, {"3/0/", 3, api.ErrSyntax},
		{"3/00", 2, api.ErrZero}, {"-3/0", 3, api.ErrZero}, {"0/0", 2, api.ErrZero}, {"-0012/0", 6, api.ErrZero},
	} {
		wantFault(t, c.s, c.at, c.e)
	}
}

// faultOf goes byte by byte through what may stand: begun, behind the minus, in Num, behind the stroke, in Den.
func faultOf(s string) (int, api.Errno) {
	const (
		begun = iota
		minus
		num
		stroke
		den
	)
	state, lower, nought := begun, 0, true
	for i := range len(s) {
		digit := s[i] >= '0' && s[i] <= '9'
		switch {
		case digit && state >= stroke:
			state = den
			nought = nought && s[i] == '0'
		case digit:
			state = num
		case s[i] == '-' && state == begun:
			state = minus
		case s[i] == '/' && state == num:
			state, lower = stroke, i+1
		default:
			return i, api.ErrSyntax
		}
	}
	if state != num && state != den {
		return len(s), api.ErrSyntax
	}
	if state == den && nought {
		return lower, api.ErrZero
	}
	return 0, api.OK
}

// All texts of up to so many bytes, most of which are wrong somewhere.
func TestP27ParseOfAllShortTexts(t *testing.T) {
	row := []string{""}
	for range 7 {
		var next []string
		for _, s := range row {
			at, e := faultOf(s)
			if e != api.OK {
				wantFault(t, s, at, e)
			} else {
				got, place, e := Parse(s)
				said(t, s, got, e, s, api.OK)
				if place != 0 {
					t.Errorf("Parse(%q): the place %d beside OK", s, place)
				}
			}
			for _, b := range []string{"-", "/", "0", "6", "x"} {
				next = append(next, s+b)
			}
		}
		row = next
	}
}

func TestP27ParseLong(t *testing.T) {
	nines, noughts := strings.Repeat("9", api.MaxText), strings.Repeat("0", api.MaxText)
	half := api.MaxText / 2
	for _, s := range []string{
		nines, noughts,
		"-" + nines[1:],
		"1/" + nines[2:],
		nines[:half] + "/" + nines[:half-2] + "7",
		"-" + noughts[:half-1] + "6/" + noughts[:half-3] + "4",
	} {
		if len(s) != api.MaxText {
			t.Fatalf("the test's own text has %d bytes", len(s))
		}
		got, at, e := Parse(s)
		same(t, "Parse of a long text", got, e, asRat(frac(t, s)))
		if at != 0 {
			t.Error("the place", at, "beside OK")
		}
	}
	wantFault(t, nines+"9", 0, api.ErrText)
	wantFault(t, strings.Repeat("x", api.MaxText+1), 0, api.ErrText)
	wantFault(t, "-"+nines, 0, api.ErrText)
	wantFault(t, "1/"+nines[1:], 0, api.ErrText)
	wantFault(t, "1/"+noughts, 0, api.ErrText)
	wantFault(t, nines[1:]+"x", api.MaxText-1, api.ErrSyntax)
	wantFault(t, nines[1:]+"/", api.MaxText, api.ErrSyntax)
	wantFault(t, "1/"+noughts[2:], 2, api.ErrZero)
}
