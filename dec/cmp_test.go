package dec

import (
	"cmp"
	"testing"

	"numeral/api"
)

func checkCmp(t *testing.T, a, b api.Dec, want int) {
	t.Helper()
	if n, e := Cmp(a, b); n != want || e != api.OK {
		t.Errorf("Cmp(%s, %s): %d, error %d; want %d", show(a), show(b), n, int(e), want)
	}
}

// rising is decimals from nought on, each worth more than the one ahead of it, far exponents and long digits among them.
func rising() []api.Dec {
	return []api.Dec{
		dc("1", -far), dc(again("1", most), -far), dc("1", -far+most), dc("1", -far+most+1),
		dc("9", -10), dc("1", -9), dc("101", -11), dc("11", -10), dc("2", -9),
		dc("999", -3), dc("1", 0), dc("1"+again("0", most-2)+"1", 1-most), dc("1"+again("0", most-3)+"1", 2-most), dc("11", -1), dc("12", -1), dc("121", -2), dc("13", -1),
		dc("9", 0), dc("99", -1), dc("1", 1), dc("12", 0), dc("2", 1), dc("1", 2),
		dc(again("9", most), 0), dc("1", most), dc(again("9", most-1), 2), dc(again("9", most), 1),
		dc("1", far), dc("10001", far-4), dc("9", far), dc("11", far), dc(again("1", most), far), dc(again("9", most), far),
	}
}

func TestP102CmpOfRising(t *testing.T) {
	all := rising()
	for i, a := range all {
		for j, b := range all {
			want := cmp.Compare(i, j)
			checkCmp(t, a, b, want)
			checkCmp(t, turned(a), turned(b), -want)
			checkCmp(t, a, turned(b), 1)
			checkCmp(t, turned(a), b, -1)
		}
		for _, none := range []api.Dec{{}, {Neg: true}} {
			checkCmp(t, a, none, 1)
			checkCmp(t, none, a, -1)
			checkCmp(t, turned(a), none, -1)
			checkCmp(t, none, turned(a), 1)
		}
	}
}

func TestP102CmpOfNoughts(t *testing.T) {
	noughts := []api.Dec{{}, {Neg: true}}
	for _, a := range noughts {
		for _, b := range noughts {
			checkCmp(t, a, b, 0)
		}
	}
}

func TestP102CmpOfSome(t *testing.T) {
	for _, a := range near() {
		for _, b := range near() {
			checkCmp(t, a, b, asRat(a).Cmp(asRat(b)))
		}
	}
	r := source(2)
	for range 5000 {
		a, b := some(r, 30), some(r, 30)
		checkCmp(t, a, b, asRat(a).Cmp(asRat(b)))
		// The same digits ahead.
		b = a
		b.Digits += someDigits(r, 1+r.IntN(3))
		if a.Digits != "" {
			checkCmp(t, a, b, asRat(a).Cmp(asRat(b)))
			b.Exp -= len(b.Digits) - len(a.Digits)
			checkCmp(t, a, b, asRat(a).Cmp(asRat(b)))
		}
	}
}
