package dec

import (
	"math/big"
	"regexp"
	"strconv"
	"strings"
	"testing"

	"numeral/api"
)

// plainWant is for exponents that can be laid out.
func plainWant(d api.Dec) string {
	if d.Digits == "" && d.Neg {
		return "-0"
	}
	return asRat(d).FloatString(max(-d.Exp, 0))
}

func brief(s string) string {
	if len(s) > 80 {
		return s[:30] + ".." + s[len(s)-30:] + " (" + strconv.Itoa(len(s)) + " bytes)"
	}
	return s
}

func wantsText(t *testing.T, what, got string, e api.Errno, want string, wantErr api.Errno) {
	t.Helper()
	if wantErr != api.OK {
		want = ""
	}
	if got != want || e != wantErr {
		t.Errorf("%s: %s, error %d; want %s, error %d", what, brief(got), int(e), brief(want), int(wantErr))
	}
}

func checkPlain(t *testing.T, d api.Dec) {
	t.Helper()
	want, wantErr := plainWant(d), api.OK
	if len(want) > most {
		wantErr = api.ErrMany
	}
	got, e := Plain(d)
	wantsText(t, "Plain("+show(d)+")", got, e, want, wantErr)
}

func TestP106PlainOfSome(t *testing.T) {
	for _, d := range near() {
		checkPlain(t, d)
	}
	for _, exp := range []int{-6, -4, -3, -2, -1, 0, 1, 2} {
		for n := 1; n < 1000; n++ {
			if n%10 != 0 {
				checkPlain(t, dc(strconv.Itoa(n), exp))
				checkPlain(t, dc(strconv.Itoa(-n), exp))
			}
		}
	}
	r := source(9)
	for range 3000 {
		checkPlain(t, some(r, 60))
	}
}

// Digits, noughts, the point and the minus count, all of them.
func TestP106PlainAtMaxText(t *testing.T) {
	t.Parallel()
	ones := again("1", most)
	for more := -3; more <= 3; more++ {
		for _, digits := range []string{"1", "25", again("1", 1000)} {
			for _, exp := range []int{most - len(digits) + more, -most + more, -most + 3 + more} {
				checkPlain(t, dc(digits, exp))
				checkPlain(t, dc("-"+digits, exp))
			}
		}
		size := most + min(more, 0)
		for _, exp := range []int{0, 1, 2, 3, -1, -2, -7, -size + 1, -size, -size - 1, -size - 2} {
			checkPlain(t, dc(ones[:size], exp))
			checkPlain(t, dc("-"+ones[:size], exp))
		}
	}
}

func TestP106PlainOfFarExponents(t *testing.T) {
	for _, exp := range []int{far, far - 1, -far, 1 - far, 1 << 20, -1 << 20} {
		for _, digits := range []string{"1", "-5", again("3", most)} {
			got, e := Plain(dc(digits, exp))
			wantsText(t, "Plain("+show(dc(digits, exp))+")", got, e, "", api.ErrMany)
		}
	}
}

// A text with an exponent is one of this form alone: one digit that is no nought, and no nought last.
var scientific = regexp.MustCompile(`^(-?)([1-9])(?:\.([0-9]*[1-9]))?e(0|-?[1-9][0-9]*)$`)

// checkScientific reads the text back, piece by piece.
func checkScientific(t *testing.T, d api.Dec) {
	t.Helper()
	got, e := Scientific(d)
	parts := scientific.FindStringSubmatch(got)
	if e != api.OK || parts == nil {
		t.Errorf("Scientific(%s): %s, error %d", show(d), brief(got), int(e))
		return
	}
	exp, err := strconv.Atoi(parts[4])
	back := api.Dec{Neg: parts[1] == "-", Digits: parts[2] + parts[3], Exp: exp - len(parts[3])}
	if err != nil || back != d {
		t.Errorf("Scientific(%s): %s", show(d), brief(got))
	}
}

func TestP106ScientificOfSome(t *testing.T) {
	all := append(edges(), dc(again("9", most), far), dc("-"+again("9", most), -far), dc(again("9", most), 0), dc(again("3", most), 1-most))
	r := source(10)
	for range 2000 {
		all = append(all, some(r, 60))
	}
	for _, d := range all {
		if d.Digits != "" {
			checkScientific(t, d)
		}
	}
	for _, d := range near() {
		text, e := Scientific(d)
		x, ok := new(big.Rat).SetString(text)
		if !ok || x.Cmp(asRat(d)) != 0 || e != api.OK {
			t.Errorf("Scientific(%s) is worth something else: %s", show(d), text)
		}
	}
}

func TestP106ScientificByRows(t *testing.T) {
	for _, c := range []struct {
		d    api.Dec
		want string
	}{
		{dc("", 0), "0e0"},
		{dc("-", 0), "-0e0"},
		{dc("1", 0), "1e0"},
		{dc("-1", 1), "-1e1"},
		{dc("9", -1), "9e-1"},
		{dc("12", 0), "1.2e1"},
		{dc("12", -1), "1.2e0"},
		{dc("12", -2), "1.2e-1"},
		{dc("12", -12), "1.2e-11"},
		{dc("-105", 98), "-1.05e100"},
		{dc("1", far), "1e1073741824"},
		{dc("1", -far), "1e-1073741824"},
		{dc("-12", far), "-1.2e1073741825"},
		{dc("12", -far), "1.2e-1073741823"},
		{dc(again("9", most), far), "9." + again("9", most-1) + "e1073807359"},
	} {
		got, e := Scientific(c.d)
		wantsText(t, "Scientific("+show(c.d)+")", got, e, c.want, api.OK)
	}
}

func TestP106WrongDecimals(t *testing.T) {
	for _, w := range wrongDecimals() {
		got, e := Plain(w.d)
		wantsText(t, "Plain of "+w.what, got, e, "", w.e)
		got, e = Scientific(w.d)
		wantsText(t, "Scientific of "+w.what, got, e, "", w.e)
	}
}

// No two decimals have one text.
func TestP106TextsDiffer(t *testing.T) {
	seen := map[string]api.Dec{}
	for _, d := range edges() {
		text, _ := Scientific(d)
		if other, ok := seen[text]; ok && other != d {
			t.Errorf("%s and %s are both %s", show(d), show(other), text)
		}
		seen[text] = d
		if strings.Contains(text, "+") {
			t.Errorf("%s has a plus", text)
		}
	}
}
