package digits

import (
	"math/big"
	"testing"

	"numeral/api"
)

func enoughIs(t *testing.T, f api.Form, want int) {
	t.Helper()
	if n, e := Enough(f); n != want || e != api.OK {
		t.Errorf("Enough(%v): %d, error %d; want %d", f, n, int(e), want)
	}
}

func sureIs(t *testing.T, f api.Form, want int) {
	t.Helper()
	if n, e := Sure(f); n != want || e != api.OK {
		t.Errorf("Sure(%v): %d, error %d; want %d", f, n, int(e), want)
	}
}

func power2(n int) *big.Int { return new(big.Int).Lsh(big.NewInt(1), uint(n)) }

// enoughOf and sureOf are by the chapter's words, number by number.
func enoughOf(f api.Form) int {
	n := 0
	for n < 1 || power10(n-1).Cmp(power2(f.Frac+1)) <= 0 {
		n++
	}
	return n
}

func sureOf(f api.Form) int {
	n := 100
	for power10(n).Cmp(power2(f.Frac)) >= 0 {
		n--
	}
	return n
}

func TestP174EveryForm(t *testing.T) {
	for _, f := range allForms() {
		enoughIs(t, f, enoughOf(f))
		sureIs(t, f, sureOf(f))
	}
}

// Where the number of digits steps up, whatever the exponents are.
func TestP174Steps(t *testing.T) {
	for _, exp := range []int{2, 5, 11} {
		for _, c := range []struct{ frac, enough, sure int }{
			{1, 2, 0}, {2, 2, 0}, {3, 3, 0}, {4, 3, 1}, {5, 3, 1}, {6, 4, 1}, {7, 4, 2}, {8, 4, 2}, {9, 5, 2}, {10, 5, 3},
			{12, 5, 3}, {13, 6, 3}, {14, 6, 4}, {48, 16, 14}, {49, 17, 14}, {50, 17, 15}, {52, 17, 15},
		} {
			enoughIs(t, form(exp, c.frac), c.enough)
			sureIs(t, form(exp, c.frac), c.sure)
		}
	}
}
